/- The contracts of layer 2's functions. -/
import Derived.Test.YtiidjkhkcckmkaaGreatDoorG1
import Derived.Test.YtiidjkhkcckmkaaGreatDoorV1
import Derived.Test.YtiidjkhkcckmkaaGreatDoorBasP
import Derived.Deep.LoopGhost
import Derived.Deep.DeepCutAuto
namespace Go.Proofs.YtiidjkhkcckmkaaGreatDoor
set_option linter.unusedSimpArgs false
set_option linter.unusedVariables false
open Go.RowKit Go.Lib
set_option maxHeartbeats 400000 in
set_option maxRecDepth 100000 in
theorem put1_any (v : Value) (l : List UInt8) (c : UInt8) (x : Int) (hx : x = (c.toNat : Int)) (B : Nat) (w : World) (hB : B ≤ w.heap.size) (hl : l.length ≤ 100) (h : OwnB B v l w) :
    Calls Tryz.prog 154 #[v, .int .u8 x] w fun e w' => ∃ v', e = .returned v' ∧ OwnB B v' (l ++ [c]) w' ∧ Below B w w' := by
  subst hx
  obtain ⟨i0, hi, hi0, hi1, hi2⟩ := info_parts info_byte
  have hm1 : l.length + 1 ≤ maxLen := by simp [maxLen]; omega
  have hm2 : (l.length + 1) * 1 ≤ 140737488355328 := by omega
  have hm3 : B ≤ (w.alloc (Obj.cells #[Value.int IntKind.u8 (c.toNat : Int)] 5)).heap.size := by simp; omega
  replace hm1 := Lib.hid hm1
  replace hm2 := Lib.hid hm2
  replace hm3 := Lib.hid hm3
  replace h := Lib.hid h
  go_enter Tryz.func154, Tryz.ntmps154
  go_wp2_with (at_builtin; refine wpList_append_src rfl _ _ 59 rfl B 5 i0 (.int .u8 0) 1 Tryz.underlying59 hi hi0 hi1 hi2 rfl _ _ _ rfl (ownB_alloc h.out _) _ [.int .u8 (c.toNat : Int)] rfl (.inr ⟨⟨w.heap.size, 0, none⟩, 1, rfl, cell_one_new _ _ _⟩) (by simp [Value.oneCell']) hm1.out hm2.out hm3.out ?_; intro v5 w5 hown5 hgrow5)
  go_ret
  refine ⟨_, rfl, ownB_of_row (l := l ++ [c]) hown5 (by simp) (by simp [Lib.byteCells]), ?_⟩
  exact below_row ((Below.refl B w).alloc hB _) hgrow5 hm3.out (ownB_alloc h.out _) (Nat.le_refl _)
def PutRel (w : World) (n : Nat) (m : Nat) (v : Value) (wr : World) : Prop := ∃ l, OwnB w.heap.size v l wr ∧ Below w.heap.size w wr ∧ l ++ Var.putN m = Var.putN n
theorem put_rel_len {l : List UInt8} {n m : Nat} (hn : n ≤ 268435455) (h : l ++ Var.putN m = Var.putN n) : l.length ≤ 100 := by
  have h1 := Var.put_len_le n hn
  rw [← h, List.length_append] at h1
  omega
theorem u8_of {n : Nat} (h : n < 256) : (n : Int) = ((UInt8.ofNat n).toNat : Int) := by
  rw [UInt8.toNat_ofNat']
  omega
set_option maxHeartbeats 400000 in
set_option maxRecDepth 100000 in
theorem digits_put (n : Nat) (hn : n ≤ 268435455) (w : World) :
    Calls Tryz.prog 153 #[.int .i64 (n : Int), .slice none 0 0, .func (.func 154) #[] #[]] w fun e w' => ∃ v, e = .returned v ∧ OwnB w.heap.size v (Var.putN n) w' ∧ Below w.heap.size w w' := by
  have h1 : (n : Int) ≤ 268435455 := by omega
  go_enter Tryz.func153, Tryz.ntmps153
  go_wp2_with fail
  go_loopg [0, 1] n (fun m i v wr => m ≤ n ∧ i = .int .i64 m ∧ PutRel w n m v wr)
  case atStart => exact ⟨Nat.le_refl _, rfl, [], ownB_nil _ _, Below.refl _ _, rfl⟩
  case round =>
    obtain ⟨hm, rfl, l, hown, hbel, hput⟩ := hrel
    have hll := put_rel_len hn hput
    replace hput := Lib.hid hput
    replace hown := Lib.hid hown
    by_cases hlt : 128 ≤ gk
    · have hlt' : (128 : Int) ≤ (gk : Int) := by omega
      go_wp2_with fail
      refine (put1_any _ l (UInt8.ofNat (gk % 128 + 128)) _ (by rw [← u8_of (by omega)]; omega) w.heap.size wr hbel.size hll hown.out).mono ?_
      rintro e w1 ⟨v1, rfl, hown1, hb1⟩
      go_wp2_with fail
      go_roundg (gk / 128)
      case measure => omega
      case rel => exact ⟨by omega, by go_num, _, hown1, hbel.trans hb1, by rw [List.append_assoc, ← hput.out, Var.putN_big hlt]; rfl⟩
    · have hlt' : decide ((128 : Int) ≤ (gk : Int)) = false := by simp; omega
      go_wp2_with fail
      refine (put1_any _ l (UInt8.ofNat gk) _ (u8_of (by omega)) w.heap.size wr hbel.size hll hown.out).mono ?_
      rintro e w1 ⟨v1, rfl, hown1, hb1⟩
      go_wp2_with fail
      go_ret
      exact ⟨_, rfl, by rw [← hput.out, Var.putN_small (by omega)]; exact hown1, hbel.trans hb1⟩
theorem putI_yes {n : Nat} (h : n ≤ 268435455) : Var.putI (n : Int) = Var.putN n := by unfold Var.putI; rw [if_pos (by omega)]; rfl
theorem putI_no {n : Int} (h : n < 0 ∨ 268435455 < n) : Var.putI n = [] := by unfold Var.putI; rw [if_neg (by omega)]
set_option maxHeartbeats 400000 in
set_option maxRecDepth 100000 in
theorem digits_put_no (n : Int) (hn : n < 0 ∨ 268435455 < n) (w : World) :
    Calls Tryz.prog 153 #[.int .i64 n, .slice none 0 0, .func (.func 154) #[] #[]] w fun e w' => e = .returned (.slice none 0 0) ∧ w = w' := by
  by_cases h : n < 0
  case' neg => 
    have h2 : 268435455 < n := by omega
    have h3 : decide (n < 0) = false := by simp; omega
  all_goals
    clear hn
    go_enter Tryz.func153, Tryz.ntmps153
    go_wp2_with fail
    go_ret
    exact ⟨rfl, rfl⟩
theorem put_any (n : Int) (w : World) :
    Calls Tryz.prog 124 #[.int .i64 n] w fun e w' => ∃ v, e = .returned v ∧ OwnB w.heap.size v (Var.putI n) w' ∧ Below w.heap.size w w' := by
  by_cases h : n < 0 ∨ 268435455 < n
  · rw [putI_no h]
    go_enter Tryz.func124, Tryz.ntmps124
    go_wp2_with fail
    refine (digits_put_no n h _).mono ?_
    rintro e w1 ⟨rfl, rfl⟩
    go_wp2_with fail
    go_ret
    exact ⟨_, rfl, ownB_nil _ _, Below.refl _ _⟩
  · obtain ⟨m, rfl⟩ : ∃ m : Nat, n = m := ⟨n.toNat, by omega⟩
    rw [putI_yes (by omega)]
    have h1 : m ≤ 268435455 := by omega
    go_enter Tryz.func124, Tryz.ntmps124
    go_wp2_with fail
    refine (digits_put m h1 _).mono ?_
    rintro e w1 ⟨v, rfl, hown, hb⟩
    go_wp2_with fail
    go_ret
    exact ⟨_, rfl, hown, hb⟩
end Go.Proofs.YtiidjkhkcckmkaaGreatDoor
