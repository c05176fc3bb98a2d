/- The contracts of layer 1's small functions: Good, the library's FullRuneInString, begins, Sane, written, End. -/
import Derived.Test.YtcchcgllgodkhaaDoorA0
import Derived.Test.YtcchcgllgodkhaaDoorM1
import Derived.Test.YtcchcgllgodkhaaDoorShelf
import Derived.WalkKit
import Derived.WalkSpells
import Derived.WalkLawsBesides
import Derived.Deep.QuietTactic
import Derived.BigQuiet
import Derived.Lib.Hide
namespace Go.Proofs.YtcchcgllgodkhaaDoor
open Go.RowKit Go.Lib

theorem quiet_alloc {w : World} (o : Obj) (n : Nat) : Below w.heap.size w ((w.alloc o).drewN n) := by
  have h := (Below.refl w.heap.size w).alloc (Nat.le_refl _) o
  exact ⟨h.os, h.tape, h.output, h.size, h.block⟩

set_option maxHeartbeats 4000000 in
set_option maxRecDepth 1000000 in
theorem full_any (s : ByteArray) (w : World) (hT : Lib.Utf8Tabs 0 1 w) :
    Calls Tryd.prog 26 #[.string s] w fun e w' => e = .returned (.bool (Dec.fullB s)) ∧ Below w.heap.size w w' := by
  by_cases h0 : s.size = 0
  · have hz : ((s.size : Int) == 0) = true := by simp [h0]
    have hres : Dec.fullB s = false := by simp [Dec.fullB, Dec.fullN, h0]
    have hres := Lib.hid hres
    clear h0
    go_enter Tryd.func26, Tryd.ntmps26
    go_wp2
    go_ret
    exact ⟨ret_bool hres.out.symm, Below.refl _ _⟩
  · have hz0 : (0 : Int) < (s.size : Int) := by omega
    have hz0' : ((s.size : Int) == 0) = false := beq_eq_false_iff_ne.2 (by omega)
    obtain ⟨x0, hx0⟩ : ∃ x0, s.get! 0 = x0 := ⟨_, rfl⟩
    obtain ⟨x1, hx1⟩ : ∃ x1, s.get! 1 = x1 := ⟨_, rfl⟩
    obtain ⟨x2, hx2⟩ : ∃ x2, s.get! 2 = x2 := ⟨_, rfl⟩
    have hs0 : s[0]'(by omega) = x0 := by rw [← hx0]; exact (Utf8W.get!_of_lt s 0 (by omega)).symm
    have l0 := x0.toNat_lt; have l1 := x1.toNat_lt; have l2 := x2.toNat_lt
    have hdec : Dec.fullB s = Dec.fullN s.size x0.toNat x1.toNat x2.toNat := by
      simp only [Dec.fullB, hx0, hx1, hx2]
    rw [hdec]
    clear hdec
    have hc0 := hT.1 x0.toNat (by omega)
    rcases Lib.firstT_cases x0.toNat with hX | hX | hX | hX | hX | hX | hX | hX | hX
    · rw [hX] at hc0
      have hres : Dec.fullN s.size x0.toNat x1.toNat x2.toNat = true := by simp [Dec.fullN, hX, h0]
      have hres := Lib.hid hres
      clear hT hX h0
      go_enter Tryd.func26, Tryd.ntmps26
      go_wp2
      go_ret
      exact ⟨ret_bool hres.out.symm, Below.refl _ _⟩
    · rw [hX] at hc0
      have hres : Dec.fullN s.size x0.toNat x1.toNat x2.toNat = true := by
        have h1 : 1 ≤ s.size := by omega
        simp [Dec.fullN, hX, h0, h1]
      have hres := Lib.hid hres
      clear hT hX h0
      go_enter Tryd.func26, Tryd.ntmps26
      go_wp2
      go_ret
      exact ⟨ret_bool hres.out.symm, Below.refl _ _⟩
    all_goals
      have ha := hT.2 (firstT x0.toNat / 16) (by omega)
      have hres : Hid (Dec.fullN s.size x0.toNat x1.toNat x2.toNat = _) := Lib.hid (by unfold Dec.fullN; rw [hX])
      rw [hX] at hc0 ha
      obtain ⟨ha0, ha1⟩ := ha
      obtain ⟨lo, hlo⟩ : ∃ lo, accLo (firstT x0.toNat / 16) = lo := ⟨_, rfl⟩
      obtain ⟨hi, hhi⟩ : ∃ hi, accHi (firstT x0.toNat / 16) = hi := ⟨_, rfl⟩
      rw [hX] at hlo hhi
      rw [hlo] at ha0
      rw [hhi] at ha1
      simp only [Nat.reduceMul, Nat.reduceAdd, Nat.reduceDiv, Int.cast_ofNat_Int] at ha0 ha1 hc0
      have hlo := Lib.hid hlo
      have hhi := Lib.hid hhi
      clear hT hX
      rcases (by omega : s.size = 1 ∨ s.size = 2 ∨ s.size = 3 ∨ 4 ≤ s.size) with hn | hn | hn | hn
      · have hn1 : decide ((1 : Int) < (s.size : Int)) = false := by simp; omega
        have hn2 : decide ((2 : Int) < (s.size : Int)) = false := by simp; omega
        have hn3 : (s.size : Int) < 2 := by omega
        have H := Lib.hid hn
        clear hn h0
        go_enter Tryd.func26, Tryd.ntmps26
        go_wp2
        go_quiet (fail)
        go_wp2
        go_ret
        exact ⟨ret_bool (by rw [hres.out, H.out]; simp), quiet_alloc _ _⟩
      · have hn1 : (1 : Int) < (s.size : Int) := by omega
        have hn2 : decide ((2 : Int) < (s.size : Int)) = false := by simp; omega
        have hn3 : (s.size : Int) < 3 := by omega
        obtain ⟨hl1, hs1⟩ : ∃ h : 1 < s.size, s[1]'h = x1 := ⟨by omega, by rw [← hx1]; exact (Utf8W.get!_of_lt s 1 (by omega)).symm⟩
        have H := Lib.hid hn
        clear hn h0
        first
        | (go_enter Tryd.func26, Tryd.ntmps26
           go_wp2
           go_ret
           exact ⟨ret_bool (by rw [hres.out, H.out]; simp), Below.refl _ _⟩)
        | (rcases (by omega : x1.toNat < lo ∨ (¬ x1.toNat < lo ∧ hi < x1.toNat) ∨ (¬ x1.toNat < lo ∧ ¬ hi < x1.toNat)) with hb | ⟨hb, hd⟩ | ⟨hb, hd⟩
           · have e1 : decide (x1.toNat < lo) = true := by simpa using hb
             have H1 := Lib.hid hb
             clear hb
             go_enter Tryd.func26, Tryd.ntmps26
             go_wp2
             go_quiet (fail)
             go_wp2
             go_ret
             exact ⟨ret_bool (by rw [hres.out, H.out, hlo.out, hhi.out]; simp; have := H1.out; omega), quiet_alloc _ _⟩
           · have e1 : decide (x1.toNat < lo) = false := by simpa using hb
             have e2 : decide (hi < x1.toNat) = true := by simpa using hd
             have H1 := Lib.hid hd
             clear hb hd
             go_enter Tryd.func26, Tryd.ntmps26
             go_wp2
             go_quiet (fail)
             go_wp2
             go_ret
             exact ⟨ret_bool (by rw [hres.out, H.out, hlo.out, hhi.out]; simp; have := H1.out; omega), quiet_alloc _ _⟩
           · have e1 : decide (x1.toNat < lo) = false := by simpa using hb
             have e2 : decide (hi < x1.toNat) = false := by simpa using hd
             have H1 := Lib.hid hb
             have H2 := Lib.hid hd
             clear hb hd
             go_enter Tryd.func26, Tryd.ntmps26
             go_wp2
             go_quiet (fail)
             go_wp2
             go_ret
             exact ⟨ret_bool (by rw [hres.out, H.out, hlo.out, hhi.out]; simp; have := H1.out; have := H2.out; omega), quiet_alloc _ _⟩)
      · have hn1 : (1 : Int) < (s.size : Int) := by omega
        have hn2 : (2 : Int) < (s.size : Int) := by omega
        have hn3 : (s.size : Int) < 4 := by omega
        obtain ⟨hl1, hs1⟩ : ∃ h : 1 < s.size, s[1]'h = x1 := ⟨by omega, by rw [← hx1]; exact (Utf8W.get!_of_lt s 1 (by omega)).symm⟩
        obtain ⟨hl2, hs2⟩ : ∃ h : 2 < s.size, s[2]'h = x2 := ⟨by omega, by rw [← hx2]; exact (Utf8W.get!_of_lt s 2 (by omega)).symm⟩
        have H := Lib.hid hn
        clear hn h0
        first
        | (go_enter Tryd.func26, Tryd.ntmps26
           go_wp2
           go_ret
           exact ⟨ret_bool (by rw [hres.out, H.out]; simp), Below.refl _ _⟩)
        | (rcases (by omega : x1.toNat < lo ∨ (¬ x1.toNat < lo ∧ hi < x1.toNat) ∨ (¬ x1.toNat < lo ∧ ¬ hi < x1.toNat)) with hb | ⟨hb, hd⟩ | ⟨hb, hd⟩
           · have e1 : decide (x1.toNat < lo) = true := by simpa using hb
             have H1 := Lib.hid hb
             clear hb
             go_enter Tryd.func26, Tryd.ntmps26
             go_wp2
             go_quiet (fail)
             go_wp2
             go_ret
             exact ⟨ret_bool (by rw [hres.out, H.out, hlo.out, hhi.out]; have := H1.out; simp [this]), quiet_alloc _ _⟩
           · have e1 : decide (x1.toNat < lo) = false := by simpa using hb
             have e2 : decide (hi < x1.toNat) = true := by simpa using hd
             have H1 := Lib.hid hd
             clear hb hd
             go_enter Tryd.func26, Tryd.ntmps26
             go_wp2
             go_quiet (fail)
             go_wp2
             go_ret
             exact ⟨ret_bool (by rw [hres.out, H.out, hlo.out, hhi.out]; have := H1.out; simp [this]), quiet_alloc _ _⟩
           · have e1 : decide (x1.toNat < lo) = false := by simpa using hb
             have e2 : decide (hi < x1.toNat) = false := by simpa using hd
             have H1 := Lib.hid hb
             have H2 := Lib.hid hd
             clear hb hd
             rcases (by omega : x2.toNat < 128 ∨ (¬ x2.toNat < 128 ∧ 191 < x2.toNat) ∨ (¬ x2.toNat < 128 ∧ ¬ 191 < x2.toNat)) with hb | ⟨hb, hd⟩ | ⟨hb, hd⟩
             · have e3 : decide ((x2.toNat : Int) < 128) = true := by simp; omega
               have H3 := Lib.hid hb
               clear hb
               go_enter Tryd.func26, Tryd.ntmps26
               go_wp2
               go_quiet (fail)
               go_wp2
               go_ret
               exact ⟨ret_bool (by rw [hres.out, H.out]; have := H3.out; simp [this]), quiet_alloc _ _⟩
             · have e3 : decide ((x2.toNat : Int) < 128) = false := by simp; omega
               have e4 : decide ((191 : Int) < (x2.toNat : Int)) = true := by simp; omega
               have H3 := Lib.hid hd
               clear hb hd
               go_enter Tryd.func26, Tryd.ntmps26
               go_wp2
               go_quiet (fail)
               go_wp2
               go_ret
               exact ⟨ret_bool (by rw [hres.out, H.out]; have := H3.out; simp [this]), quiet_alloc _ _⟩
             · have e3 : decide ((x2.toNat : Int) < 128) = false := by simp; omega
               have e4 : decide ((191 : Int) < (x2.toNat : Int)) = false := by simp; omega
               have H3 := Lib.hid hb
               have H4 := Lib.hid hd
               clear hb hd
               go_enter Tryd.func26, Tryd.ntmps26
               go_wp2
               go_quiet (fail)
               go_wp2
               go_ret
               exact ⟨ret_bool (by rw [hres.out, H.out, hlo.out, hhi.out]; simp; have := H1.out; have := H2.out; have := H3.out; have := H4.out; omega), quiet_alloc _ _⟩)
      · have hn3 : (4 : Int) ≤ (s.size : Int) := by omega
        have H := Lib.hid hn
        clear h0 hn
        go_enter Tryd.func26, Tryd.ntmps26
        go_wp2
        go_ret
        exact ⟨ret_bool (by have h := H.out; rw [hres.out, decide_eq_true (p := s.size ≠ 0) (by omega)]; simp; exact Or.inl (Or.inl (by omega))), Below.refl _ _⟩
end Go.Proofs.YtcchcgllgodkhaaDoor
