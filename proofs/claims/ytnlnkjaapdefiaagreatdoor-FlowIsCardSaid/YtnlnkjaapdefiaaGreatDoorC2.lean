/- The contract of layer 2's Take. -/
import Derived.Test.YtnlnkjaapdefiaaGreatDoorC1
import Derived.OwnWalk
namespace Go.Proofs.YtnlnkjaapdefiaaGreatDoor
set_option linter.unusedSimpArgs false
set_option linter.unusedVariables false
open Go.RowKit Go.Lib
theorem take_none_long {l : List UInt8} (hf : (l.take 4).findIdx? Var.ends = none) (h : 4 ≤ l.length) : Var.takeL l = (0, 0, 3) := by
  unfold Var.takeL
  rw [hf]
  simp only
  rw [if_pos h]
theorem take_none_short {l : List UInt8} (hf : (l.take 4).findIdx? Var.ends = none) (h : l.length < 4) : Var.takeL l = (0, 0, 1) := by
  unfold Var.takeL
  rw [hf]
  simp only
  rw [if_neg (by omega)]
theorem take_form {l : List UInt8} {k : Nat} (hk : k < l.length) (hf : (l.take 4).findIdx? Var.ends = some k) (h0 : 0 < k) (hc : l[k] = 0) : Var.takeL l = (0, 0, 2) := by
  unfold Var.takeL
  rw [hf]
  simp only
  rw [if_pos ⟨h0, by rw [List.getElem?_eq_getElem hk, hc]⟩]
theorem take_good {l : List UInt8} {k : Nat} (hk : k < l.length) (hf : (l.take 4).findIdx? Var.ends = some k) (h : ¬ 0 < k ∨ ¬ l[k] = 0) : Var.takeL l = ((Var.valL (l.take (k + 1)) : Int), (k : Int) + 1, 0) := by
  unfold Var.takeL
  rw [hf]
  simp only
  rw [if_neg]
  rintro ⟨h0, h1⟩
  rw [List.getElem?_eq_getElem hk] at h1
  rcases h with h | h
  · exact h h0
  · exact h (Option.some.inj h1)
theorem ret_three {x : Int × Int × Int} {a b c : Int} (h : x = (a, b, c)) : Ending.returned (.tuple #[.int .i64 a, .int .i64 b, .int .i64 c]) = Ending.returned (.tuple #[.int .i64 x.1, .int .i64 x.2.1, .int .i64 x.2.2]) := by subst h; rfl
theorem beq0_u8 {c : UInt8} (h : ¬ c = 0) : ((c.toNat : Int) == 0) = false := by
  refine beq_eq_false_iff_ne.2 fun h1 => h ?_
  exact UInt8.toNat_inj.1 (by simpa using h1)
set_option maxHeartbeats 800000 in
set_option maxRecDepth 100000 in
theorem take_some (a : Addr) (n cap : Nat) (l : List UInt8) (hn : n = l.length) (w : World) (h : RBytes w (.slice (some a) n cap) l) :
    Calls Tryz.prog 70 #[.slice (some a) n cap] w fun e w' => e = .returned (.tuple #[.int .i64 (Var.takeL l).1, .int .i64 (Var.takeL l).2.1, .int .i64 (Var.takeL l).2.2]) ∧ w = w' := by
  subst hn
  have hcap := bytes_cap h
  obtain ⟨m, hm⟩ : ∃ m : Nat, min l.length 4 = m := ⟨_, rfl⟩
  have ht : RBytes w (.slice (some a) m cap) (l.take 4) := by
    have h1 := bytes_take (cap' := cap) h m (by omega) (by omega)
    have e : l.take m = l.take 4 := by rw [← hm, List.take_eq_take_iff]; omega
    rw [e] at h1
    exact h1
  replace ht := Lib.hid ht
  have hml : m = (l.take 4).length := by rw [List.length_take]; omega
  have hcapi : (l.length : Int) ≤ (cap : Int) := by omega
  have hl1 : (l.take 4).length ≤ 100 := by omega
  have hbb : ((4 : Int) < (l.length : Int) ∧ m = 4) ∨ ((l.length : Int) ≤ 4 ∧ m = l.length) := by omega
  have hp := Lib.hid (bytes_at h)
  replace hml := Lib.hid hml
  replace h := Lib.hid h
  cases hf : (l.take 4).findIdx? Var.ends with
  | none =>
    have hidx : Var.idx (l.take 4) = -1 := by unfold Var.idx; rw [hf]
    replace hf := Lib.hid hf
    replace hidx := Lib.hid hidx
    by_cases hlong : 4 ≤ l.length
    · have hres := Lib.hid (take_none_long hf.out hlong)
      have hlongi : (4 : Int) ≤ (l.length : Int) := by omega
      clear hm hlong
      rcases hbb with ⟨hbi, rfl⟩ | ⟨hbi, rfl⟩
      all_goals
        go_enter Tryz.func70, Tryz.ntmps70
        go_wp2_with fail
        refine (idx_any _ _ _ (l.take 4) hl1 hml.out _ ht.out).mono ?_
        rintro e w1 ⟨rfl, rfl⟩
        rw [hidx.out]
        go_wp2_with fail
        go_ret3
        exact ⟨ret_three hres.out, rfl⟩
    · have hres := Lib.hid (take_none_short hf.out (by omega))
      have hlongi : decide ((4 : Int) ≤ (l.length : Int)) = false := by simp; omega
      rcases hbb with ⟨hbi, rfl⟩ | ⟨hbi, rfl⟩
      · omega
      clear hm hlong
      go_enter Tryz.func70, Tryz.ntmps70
      go_wp2_with fail
      refine (idx_any _ _ _ (l.take 4) hl1 hml.out _ ht.out).mono ?_
      rintro e w1 ⟨rfl, rfl⟩
      rw [hidx.out]
      go_wp2_with fail
      go_ret3
      exact ⟨ret_three hres.out, rfl⟩
  | some k =>
    have hidx : Var.idx (l.take 4) = (k : Int) := by unfold Var.idx; rw [hf]
    have hk : k < 4 ∧ k < l.length := by
      obtain ⟨h1, _⟩ := List.findIdx?_eq_some_iff_getElem.1 hf
      rw [List.length_take] at h1
      omega
    obtain ⟨hk4, hkl⟩ := hk
    have hkl' : (k : Int) < (l.length : Int) := by omega
    have hkc' : (k : Int) + 1 ≤ (cap : Int) := by omega
    have hk4' : (k : Int) < 4 := by omega
    replace hf := Lib.hid hf
    replace hidx := Lib.hid hidx
    obtain ⟨b, off, hab, hb, hc⟩ := hp.out (by omega)
    obtain rfl : a = ⟨b, off, none⟩ := Option.some.inj hab
    have hcell := hc k hkl
    obtain ⟨c, hcc⟩ : ∃ c, l[k] = c := ⟨_, rfl⟩
    rw [hcc] at hcell
    have hr1 := Lib.hid (bytes_take (cap' := cap) h.out (k + 1) (by omega) (by omega))
    have hlen1 := Lib.hid (show k + 1 = (l.take (k + 1)).length by rw [List.length_take]; omega)
    have hlen2 := Lib.hid (show (l.take (k + 1)).length ≤ 4 by rw [List.length_take]; omega)
    clear hc hab hm
    by_cases h0 : 0 < k
    · have h0' : (0 : Int) < (k : Int) := by omega
      by_cases hz : c = 0
      · subst hz
        have hres := Lib.hid (take_form hkl hf.out h0 hcc)
        clear hcc
        rcases hbb with ⟨hbi, rfl⟩ | ⟨hbi, rfl⟩
        all_goals
          go_enter Tryz.func70, Tryz.ntmps70
          go_wp2_with fail
          refine (idx_any _ _ _ (l.take 4) hl1 hml.out _ ht.out).mono ?_
          rintro e w1 ⟨rfl, rfl⟩
          rw [hidx.out]
          go_wp2_with fail
          go_ret3
          exact ⟨ret_three hres.out, rfl⟩
      · have hz' := beq0_u8 hz
        have hres := Lib.hid (take_good hkl hf.out (.inr (by rw [hcc]; exact hz)))
        clear hcc hz
        rcases hbb with ⟨hbi, rfl⟩ | ⟨hbi, rfl⟩
        all_goals
          go_enter Tryz.func70, Tryz.ntmps70
          go_wp2_with fail
          refine (idx_any _ _ _ (l.take 4) hl1 hml.out _ ht.out).mono ?_
          rintro e w1 ⟨rfl, rfl⟩
          rw [hidx.out]
          go_wp2_with fail
          refine (value_any _ _ _ (l.take (k + 1)) hlen2.out hlen1.out _ hr1.out).mono ?_
          rintro e w1 ⟨rfl, rfl⟩
          go_wp2_with fail
          go_ret3
          exact ⟨ret_three hres.out, rfl⟩
    · have h0' : decide ((0 : Int) < (k : Int)) = false := by simp; omega
      have hres := Lib.hid (take_good hkl hf.out (.inl h0))
      obtain rfl : k = 0 := by omega
      clear hcc h0
      rcases hbb with ⟨hbi, rfl⟩ | ⟨hbi, rfl⟩
      all_goals
        go_enter Tryz.func70, Tryz.ntmps70
        go_wp2_with fail
        refine (idx_any _ _ _ (l.take 4) hl1 hml.out _ ht.out).mono ?_
        rintro e w1 ⟨rfl, rfl⟩
        rw [hidx.out]
        go_wp2_with fail
        refine (value_any _ _ _ (l.take (0 + 1)) hlen2.out hlen1.out _ hr1.out).mono ?_
        rintro e w1 ⟨rfl, rfl⟩
        go_wp2_with fail
        go_ret3
        exact ⟨ret_three hres.out, rfl⟩
theorem take_nil (w : World) :
    Calls Tryz.prog 70 #[.slice none 0 0] w fun e w' => e = .returned (.tuple #[.int .i64 0, .int .i64 0, .int .i64 1]) ∧ w = w' := by
  go_enter Tryz.func70, Tryz.ntmps70
  go_wp2_with fail
  refine (idx_any _ _ _ [] (by decide) rfl _ (.inl ⟨rfl, rfl⟩)).mono ?_
  rintro e w1 ⟨rfl, rfl⟩
  rw [show Var.idx [] = -1 from rfl]
  go_wp2_with fail
  go_ret3
  exact ⟨rfl, rfl⟩
theorem take_any (v : Value) (l : List UInt8) (w : World) (h : RBytes w v l) :
    Calls Tryz.prog 70 #[v] w fun e w' => e = .returned (.tuple #[.int .i64 (Var.takeL l).1, .int .i64 (Var.takeL l).2.1, .int .i64 (Var.takeL l).2.2]) ∧ w = w' := by
  have h' := h
  rcases h' with ⟨rfl, rfl⟩ | ⟨a, cap, rfl, _⟩
  · exact take_nil w
  · exact take_some a _ cap l rfl w h
end Go.Proofs.YtnlnkjaapdefiaaGreatDoor
