/- The contracts of layer 2's functions. -/
import Derived.Test.YtnlnkjaapdefiaaGreatDoorG1
import Derived.Test.YtnlnkjaapdefiaaGreatDoorV1
import Derived.Laws.BitsLemmas
import Derived.Deep.LoopGhost
import Derived.Deep.DeepCutAuto
namespace Go.Proofs.YtnlnkjaapdefiaaGreatDoor
set_option linter.unusedSimpArgs false
set_option linter.unusedVariables false
open Go.RowKit Go.Lib
theorem ends_any (c : UInt8) (w : World) :
    Calls Tryz.prog 109 #[.int .u8 (c.toNat : Int)] w fun e w' => e = .returned (.bool (Var.ends c)) ∧ w = w' := by
  go_enter Tryz.func109, Tryz.ntmps109
  go_wp2_with fail
  go_ret
  exact ⟨ret_bool (by unfold Var.ends; rw [Bool.eq_iff_iff]; simp; omega), rfl⟩
set_option maxHeartbeats 400000 in
set_option maxRecDepth 100000 in
theorem put1_any (v : Value) (l : List UInt8) (c : UInt8) (x : Int) (hx : x = (c.toNat : Int)) (B : Nat) (w : World) (hB : B ≤ w.heap.size) (hl : l.length ≤ 100) (h : OwnB B v l w) :
    Calls Tryz.prog 148 #[v, .int .u8 x] w fun e w' => ∃ v', e = .returned v' ∧ OwnB B v' (l ++ [c]) w' ∧ Below B w w' := by
  subst hx
  obtain ⟨i0, hi, hi0, hi1, hi2⟩ := info_parts info_byte
  have hm1 : l.length + 1 ≤ maxLen := by simp [maxLen]; omega
  have hm2 : (l.length + 1) * 1 ≤ 140737488355328 := by omega
  have hm3 : B ≤ (w.alloc (Obj.cells #[Value.int IntKind.u8 (c.toNat : Int)] 5)).heap.size := by simp; omega
  replace hm1 := Lib.hid hm1
  replace hm2 := Lib.hid hm2
  replace hm3 := Lib.hid hm3
  replace h := Lib.hid h
  go_enter Tryz.func148, Tryz.ntmps148
  go_wp2_with (at_builtin; refine wpList_append_src rfl _ _ 22 rfl B 5 i0 (.int .u8 0) 1 Tryz.underlying22 hi hi0 hi1 hi2 rfl _ _ _ rfl (ownB_alloc h.out _) _ [.int .u8 (c.toNat : Int)] rfl (.inr ⟨⟨w.heap.size, 0, none⟩, 1, rfl, cell_one_new _ _ _⟩) (by simp [Value.oneCell']) hm1.out hm2.out hm3.out ?_; intro v5 w5 hown5 hgrow5)
  go_ret
  refine ⟨_, rfl, ownB_of_row (l := l ++ [c]) hown5 (by simp) (by simp [Lib.byteCells]), ?_⟩
  exact below_row ((Below.refl B w).alloc hB _) hgrow5 hm3.out (ownB_alloc h.out _) (Nat.le_refl _)
/-- the loop of digits over Put's own function -/
def PutRel (w : World) (n : Nat) (m : Nat) (v : Value) (wr : World) : Prop := ∃ l, OwnB w.heap.size v l wr ∧ Below w.heap.size w wr ∧ l ++ Var.putN m = Var.putN n
theorem put_rel_len {l : List UInt8} {n m : Nat} (hn : n ≤ 268435455) (h : l ++ Var.putN m = Var.putN n) : l.length ≤ 100 := by
  have h1 := Var.put_len_le n hn
  rw [← h, List.length_append] at h1
  omega
theorem u8_of {n : Nat} (h : n < 256) : (n : Int) = ((UInt8.ofNat n).toNat : Int) := by
  rw [UInt8.toNat_ofNat']
  omega
set_option maxHeartbeats 400000 in
set_option maxRecDepth 100000 in
theorem digits_put (n : Nat) (hn : n ≤ 268435455) (w : World) :
    Calls Tryz.prog 147 #[.int .i64 (n : Int), .slice none 0 0, .func (.func 148) #[] #[]] w fun e w' => ∃ v, e = .returned v ∧ OwnB w.heap.size v (Var.putN n) w' ∧ Below w.heap.size w w' := by
  have h1 : (n : Int) ≤ 268435455 := by omega
  go_enter Tryz.func147, Tryz.ntmps147
  go_wp2_with fail
  go_loopg [0, 1] n (fun m i v wr => m ≤ n ∧ i = .int .i64 m ∧ PutRel w n m v wr)
  case atStart => exact ⟨Nat.le_refl _, rfl, [], ownB_nil _ _, Below.refl _ _, rfl⟩
  case round =>
    obtain ⟨hm, rfl, l, hown, hbel, hput⟩ := hrel
    have hll := put_rel_len hn hput
    replace hput := Lib.hid hput
    replace hown := Lib.hid hown
    by_cases hlt : 128 ≤ gk
    · have hlt' : (128 : Int) ≤ (gk : Int) := by omega
      go_wp2_with fail
      refine (put1_any _ l (UInt8.ofNat (gk % 128 + 128)) _ (by rw [← u8_of (by omega)]; omega) w.heap.size wr hbel.size hll hown.out).mono ?_
      rintro e w1 ⟨v1, rfl, hown1, hb1⟩
      go_wp2_with fail
      go_roundg (gk / 128)
      case measure => omega
      case rel => exact ⟨by omega, by go_num, _, hown1, hbel.trans hb1, by rw [List.append_assoc, ← hput.out, Var.putN_big hlt]; rfl⟩
    · have hlt' : decide ((128 : Int) ≤ (gk : Int)) = false := by simp; omega
      go_wp2_with fail
      refine (put1_any _ l (UInt8.ofNat gk) _ (u8_of (by omega)) w.heap.size wr hbel.size hll hown.out).mono ?_
      rintro e w1 ⟨v1, rfl, hown1, hb1⟩
      go_wp2_with fail
      go_ret
      exact ⟨_, rfl, by rw [← hput.out, Var.putN_small (by omega)]; exact hown1, hbel.trans hb1⟩
theorem putI_yes {n : Nat} (h : n ≤ 268435455) : Var.putI (n : Int) = Var.putN n := by unfold Var.putI; rw [if_pos (by omega)]; rfl
theorem putI_no {n : Int} (h : n < 0 ∨ 268435455 < n) : Var.putI n = [] := by unfold Var.putI; rw [if_neg (by omega)]
set_option maxHeartbeats 400000 in
set_option maxRecDepth 100000 in
theorem digits_put_no (n : Int) (hn : n < 0 ∨ 268435455 < n) (w : World) :
    Calls Tryz.prog 147 #[.int .i64 n, .slice none 0 0, .func (.func 148) #[] #[]] w fun e w' => e = .returned (.slice none 0 0) ∧ w = w' := by
  by_cases h : n < 0
  case' neg => 
    have h2 : 268435455 < n := by omega
    have h3 : decide (n < 0) = false := by simp; omega
  all_goals
    clear hn
    go_enter Tryz.func147, Tryz.ntmps147
    go_wp2_with fail
    go_ret
    exact ⟨rfl, rfl⟩
theorem put_any (n : Int) (w : World) :
    Calls Tryz.prog 107 #[.int .i64 n] w fun e w' => ∃ v, e = .returned v ∧ OwnB w.heap.size v (Var.putI n) w' ∧ Below w.heap.size w w' := by
  by_cases h : n < 0 ∨ 268435455 < n
  · rw [putI_no h]
    go_enter Tryz.func107, Tryz.ntmps107
    go_wp2_with fail
    refine (digits_put_no n h _).mono ?_
    rintro e w1 ⟨rfl, rfl⟩
    go_wp2_with fail
    go_ret
    exact ⟨_, rfl, ownB_nil _ _, Below.refl _ _⟩
  · obtain ⟨m, rfl⟩ : ∃ m : Nat, n = m := ⟨n.toNat, by omega⟩
    rw [putI_yes (by omega)]
    have h1 : m ≤ 268435455 := by omega
    go_enter Tryz.func107, Tryz.ntmps107
    go_wp2_with fail
    refine (digits_put m h1 _).mono ?_
    rintro e w1 ⟨v, rfl, hown, hb⟩
    go_wp2_with fail
    go_ret
    exact ⟨_, rfl, hown, hb⟩
set_option maxHeartbeats 400000 in
set_option maxRecDepth 100000 in
theorem idx_any (p : Option Addr) (n cap : Nat) (l : List UInt8) (hl : l.length ≤ 100) (hn : n = l.length) (w : World) (h : RBytes w (.slice p n cap) l) :
    Calls Tryz.prog 108 #[.slice p n cap, .func (.func 109) #[] #[]] w fun e w' => e = .returned (.int .i64 (Var.idx l)) ∧ w = w' := by
  have hp := Lib.hid (bytes_at h)
  clear h
  subst hn
  go_enter Tryz.func108, Tryz.ntmps108
  go_wp2_with fail
  go_loopg [5, 8] l.length (fun g x i wr => w = wr ∧ ∃ k : Nat, k ≤ l.length ∧ g = l.length - k ∧ i = .int .i64 k ∧ Hid (∀ c ∈ l.take k, Var.ends c = false))
  case atStart => exact ⟨rfl, 0, Nat.zero_le _, rfl, rfl, Lib.hid (by simp)⟩
  case round =>
    obtain ⟨rfl, k, hk, rfl, rfl, hno⟩ := hrel
    by_cases hlt : k < l.length
    · have hlt' : (k : Int) < (l.length : Int) := by omega
      obtain ⟨b, off, rfl, hb, hc⟩ := hp.out (by omega)
      have hcell := hc k hlt
      obtain ⟨c, hcc⟩ : ∃ c, l[k] = c := ⟨_, rfl⟩
      rw [hcc] at hcell
      replace hcc := Lib.hid hcc
      clear hc
      go_wp2_with fail
      refine (ends_any c w).mono ?_
      rintro e w1 ⟨rfl, rfl⟩
      cases hE : Var.ends c with
      | true =>
        replace hE := Lib.hid hE
        go_wp2_with fail
        go_ret
        refine ⟨?_, rfl⟩
        have hf : l.findIdx? Var.ends = some k := by
          rw [List.findIdx?_eq_some_iff_getElem]
          refine ⟨hlt, by rw [hcc.out]; exact hE.out, fun j hj => ?_⟩
          have h := hno.out (l[j]) (by rw [List.mem_take_iff_getElem]; exact ⟨j, by omega, rfl⟩)
          rw [h]
          decide
        unfold Var.idx
        rw [hf]
        rfl
      | false =>
        replace hE := Lib.hid hE
        go_wp2_with fail
        go_roundg (l.length - (k + 1))
        case measure => omega
        case rel =>
          refine ⟨rfl, k + 1, by omega, rfl, by go_num, Lib.hid ?_⟩
          intro c' hc'
          rw [List.take_succ_eq_append_getElem hlt, hcc.out] at hc'
          rcases List.mem_append.1 hc' with h | h
          · exact hno.out c' h
          · rw [List.mem_singleton.1 h]; exact hE.out
    · have hlt' : decide ((k : Int) < (l.length : Int)) = false := by simp; omega
      go_wp2_with fail
      go_ret
      refine ⟨?_, rfl⟩
      have hf : l.findIdx? Var.ends = none := by
        rw [List.findIdx?_eq_none_iff]
        intro c hc
        exact hno.out c (by rw [List.take_of_length_le (by omega)]; exact hc)
      unfold Var.idx
      rw [hf]
      rfl
theorem val_drop {l : List UInt8} {k : Nat} {c : UInt8} (hk : k < l.length) (hc : l[k] = c) : Var.valL (l.drop k) = c.toNat % 128 + 128 * Var.valL (l.drop (k + 1)) := by
  rw [List.drop_eq_getElem_cons hk, hc]
  rfl
theorem val_bound (l : List UInt8) (k : Nat) (h : l.length ≤ 4) : Var.valL (l.drop k) < 268435456 := by
  have h1 := Var.valL_lt (l.drop k)
  have h2 : 128 ^ (l.drop k).length ≤ 128 ^ 4 := Nat.pow_le_pow_right (by decide) (by rw [List.length_drop]; omega)
  omega
set_option maxHeartbeats 400000 in
set_option maxRecDepth 100000 in
theorem value_any (p : Option Addr) (n cap : Nat) (l : List UInt8) (hl : l.length ≤ 4) (hn : n = l.length) (w : World) (h : RBytes w (.slice p n cap) l) :
    Calls Tryz.prog 110 #[.slice p n cap] w fun e w' => e = .returned (.int .i64 (Var.valL l : Int)) ∧ w = w' := by
  have hp := Lib.hid (bytes_at h)
  clear h
  subst hn
  go_enter Tryz.func110, Tryz.ntmps110
  go_wp2_with fail
  go_loopg [3, 4] l.length (fun k x i wr => w = wr ∧ k ≤ l.length ∧ i = .int .i64 ((k : Int) - 1) ∧ ∃ N : Nat, x = .int .i64 N ∧ Hid (Var.valL (l.drop k) = N))
  case atStart => exact ⟨rfl, Nat.le_refl _, rfl, 0, rfl, Lib.hid (by simp [Var.valL])⟩
  case round =>
    obtain ⟨rfl, hk, rfl, N, rfl, hN⟩ := hrel
    have hN2 : (N : Int) < 268435456 := by have := val_bound l gk hl; rw [hN.out] at this; omega
    by_cases hlt : 0 < gk
    · obtain ⟨j, rfl⟩ : ∃ j, gk = j + 1 := ⟨gk - 1, by omega⟩
      have hj : ((j + 1 : Nat) : Int) - 1 = (j : Int) := by omega
      rw [hj]
      clear hj
      obtain ⟨b, off, rfl, hb, hc⟩ := hp.out (by omega)
      have hjl : j < l.length := by omega
      have hcell := hc j hjl
      obtain ⟨c, hcc⟩ : ∃ c, l[j] = c := ⟨_, rfl⟩
      rw [hcc] at hcell
      replace hcc := Lib.hid hcc
      clear hc
      go_wp2_with fail
      go_roundg j
      case measure => omega
      case rel =>
        refine ⟨rfl, by omega, by go_num, 128 * N + c.toNat % 128, ?_, Lib.hid ?_⟩
        · congr 1; omega
        · rw [val_drop hjl hcc.out, hN.out]; omega
    · obtain rfl : gk = 0 := by omega
      go_wp2_with fail
      go_ret
      exact ⟨by rw [← hN.out]; rfl, rfl⟩
end Go.Proofs.YtnlnkjaapdefiaaGreatDoor
