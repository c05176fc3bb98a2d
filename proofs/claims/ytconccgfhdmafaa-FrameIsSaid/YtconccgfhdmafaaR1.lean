/- The contracts of layer 2's functions of the document. -/
import Derived.Test.YtconccgfhdmafaaC2
namespace Go.Proofs.Ytconccgfhdmafaa
set_option linter.unusedSimpArgs false
set_option linter.unusedVariables false
open Go.RowKit Go.Lib

set_option maxHeartbeats 800000 in
set_option maxRecDepth 100000 in
theorem rput_yes (n : Nat) (hn : n ≤ 268435455) (w : World) :
    Calls Try.prog 27 #[.int .i64 (n : Int)] w fun e w' => ∃ v, e = .returned v ∧ OwnB w.heap.size v (Var.putN n) w' ∧ Below w.heap.size w w' := by
  have h1 : (n : Int) ≤ 268435455 := by omega
  obtain ⟨i0, hi, hi0, hi1, hi2⟩ := info_parts info_byte
  go_enter Try.func27, Try.ntmps27
  go_wp2_with fail
  go_loopg [0, 3] n (fun m i v wr => m ≤ n ∧ i = .int .i64 m ∧ PutRel w n m v wr)
  case atStart => exact ⟨Nat.le_refl _, rfl, [], ownB_nil _ _, Below.refl _ _, rfl⟩
  case round =>
    obtain ⟨hm, rfl, l, hown, hbel, hput⟩ := hrel
    have hll := put_rel_len hn hput
    replace hput := Lib.hid hput
    replace hown := Lib.hid hown
    have hm1 := Lib.hid (show l.length + 1 ≤ maxLen by simp [maxLen]; omega)
    have hm2 := Lib.hid (show (l.length + 1) * 1 ≤ 140737488355328 by omega)
    by_cases hlt : 128 ≤ gk
    · have hlt' : (128 : Int) ≤ (gk : Int) := by omega
      have hc : 128 + (gk : Int) % 128 = ((UInt8.ofNat (gk % 128 + 128)).toNat : Int) := by rw [← u8_of (by omega)]; omega
      obtain ⟨c, hcc⟩ : ∃ c, UInt8.ofNat (gk % 128 + 128) = c := ⟨_, rfl⟩
      rw [hcc] at hc
      have hcb : 0 ≤ 128 + (gk : Int) % 128 ∧ 128 + (gk : Int) % 128 < 256 := by omega
      have hm3 := Lib.hid (show w.heap.size ≤ (wr.alloc (Obj.cells #[Value.int IntKind.u8 (128 + (gk : Int) % 128)] 5)).heap.size by have := hbel.size; simp; omega)
      replace hcc := Lib.hid hcc
      replace hc := Lib.hid hc
      go_wp2_with (at_builtin; refine wpList_append_src rfl _ _ 23 rfl w.heap.size 5 i0 (.int .u8 0) 1 Try.underlying23 hi hi0 hi1 hi2 rfl _ _ _ rfl (ownB_alloc hown.out _) _ [.int .u8 (128 + (gk : Int) % 128)] rfl (.inr ⟨⟨wr.heap.size, 0, none⟩, 1, rfl, cell_one_new _ _ _⟩) (by simp [Value.oneCell']) hm1.out hm2.out hm3.out ?_; intro v5 w5 hown5 hgrow5)
      go_roundg (gk / 128)
      case measure => omega
      case rel =>
        rw [hc.out] at hown5 hgrow5 hm3
        refine ⟨by omega, by go_num, l ++ [c], ownB_of_row hown5 (by simp) (by simp [Lib.byteCells]), below_row (hbel.alloc hbel.size _) hgrow5 hm3.out (ownB_alloc hown.out _) (Nat.le_refl _), ?_⟩
        rw [List.append_assoc, ← hput.out, Var.putN_big hlt, hcc.out]
        rfl
    · have hlt' : decide ((128 : Int) ≤ (gk : Int)) = false := by simp; omega
      have hc : (gk : Int) = ((UInt8.ofNat gk).toNat : Int) := u8_of (by omega)
      obtain ⟨c, hcc⟩ : ∃ c, UInt8.ofNat gk = c := ⟨_, rfl⟩
      rw [hcc] at hc
      have hcb : (gk : Int) < 256 := by omega
      have hm3 := Lib.hid (show w.heap.size ≤ (wr.alloc (Obj.cells #[Value.int IntKind.u8 (gk : Int)] 5)).heap.size by have := hbel.size; simp; omega)
      replace hcc := Lib.hid hcc
      replace hc := Lib.hid hc
      go_wp2_with (at_builtin; refine wpList_append_src rfl _ _ 23 rfl w.heap.size 5 i0 (.int .u8 0) 1 Try.underlying23 hi hi0 hi1 hi2 rfl _ _ _ rfl (ownB_alloc hown.out _) _ [.int .u8 (gk : Int)] rfl (.inr ⟨⟨wr.heap.size, 0, none⟩, 1, rfl, cell_one_new _ _ _⟩) (by simp [Value.oneCell']) hm1.out hm2.out hm3.out ?_; intro v5 w5 hown5 hgrow5)
      go_ret
      rw [hc.out] at hown5 hgrow5 hm3
      refine ⟨_, rfl, ?_, below_row (hbel.alloc hbel.size _) hgrow5 hm3.out (ownB_alloc hown.out _) (Nat.le_refl _)⟩
      rw [← hput.out, Var.putN_small (by omega), hcc.out]
      exact ownB_of_row hown5 (by simp) (by simp [Lib.byteCells])

set_option maxHeartbeats 400000 in
set_option maxRecDepth 100000 in
theorem rput_no (n : Int) (hn : n < 0 ∨ 268435455 < n) (w : World) :
    Calls Try.prog 27 #[.int .i64 n] w fun e w' => e = .returned (.slice none 0 0) ∧ w = w' := by
  by_cases h : n < 0
  case' neg =>
    have h2 : 268435455 < n := by omega
    have h3 : decide (n < 0) = false := by simp; omega
  all_goals
    clear hn
    go_enter Try.func27, Try.ntmps27
    go_wp2_with fail
    go_ret
    exact ⟨rfl, rfl⟩

theorem rput_any (n : Int) (w : World) :
    Calls Try.prog 27 #[.int .i64 n] w fun e w' => ∃ v, e = .returned v ∧ OwnB w.heap.size v (Var.putI n) w' ∧ Below w.heap.size w w' := by
  by_cases h : n < 0 ∨ 268435455 < n
  · rw [putI_no h]
    refine (rput_no n h w).mono ?_
    rintro e w1 ⟨rfl, rfl⟩
    exact ⟨_, rfl, ownB_nil _ _, Below.refl _ _⟩
  · obtain ⟨m, rfl⟩ : ∃ m : Nat, n = m := ⟨n.toNat, by omega⟩
    rw [putI_yes (by omega)]
    exact rput_yes m (by omega) w

theorem none_of {l : List UInt8} (h : ∀ c ∈ l.take 4, Var.ends c = false) : (l.take 4).findIdx? Var.ends = none := List.findIdx?_eq_none_iff.2 h

theorem some_of {l : List UInt8} {i : Nat} {c : UInt8} (hi : i < l.length) (h4 : i < 4) (hc : l[i] = c) (hE : Var.ends c = true) (h : ∀ c ∈ l.take i, Var.ends c = false) : (l.take 4).findIdx? Var.ends = some i := by
  rw [List.findIdx?_eq_some_iff_getElem]
  refine ⟨by rw [List.length_take]; omega, by rw [List.getElem_take, hc]; exact hE, fun j hj => ?_⟩
  rw [List.getElem_take]
  have h := h (l[j]) (by rw [List.mem_take_iff_getElem]; exact ⟨j, by omega, rfl⟩)
  rw [h]
  decide

theorem val_take {l : List UInt8} {i : Nat} {c : UInt8} (hi : i < l.length) (hc : l[i] = c) : Var.valL (l.take (i + 1)) = Var.valL (l.take i) + 128 ^ i * (c.toNat % 128) := by
  rw [List.take_succ_eq_append_getElem hi, Var.valL_append, hc, List.length_take, Nat.min_eq_left (by omega)]
  simp [Var.valL]

theorem ends_no {c : UInt8} (h : Var.ends c = false) : decide ((c.toNat : Int) < 128) = false := by
  simp [Var.ends] at h
  simp
  omega
theorem ends_yes {c : UInt8} (h : Var.ends c = true) : (c.toNat : Int) < 128 := by
  simp [Var.ends] at h
  omega

set_option maxHeartbeats 1600000 in
set_option maxRecDepth 100000 in
theorem rtake_any (v : Value) (l : List UInt8) (w : World) (h : RBytes w v l) :
    Calls Try.prog 24 #[v] w fun e w' => e = .returned (.tuple #[.int .i64 (Var.takeL l).1, .int .i64 (Var.takeL l).2.1, .int .i64 (Var.takeL l).2.2]) ∧ w = w' := by
  obtain ⟨p, cap, rfl⟩ := bytes_form h
  have hp := Lib.hid (bytes_at h)
  clear h
  go_enter Try.func24, Try.ntmps24
  go_wp2_with fail
  go_loopg [5, 6, 7] 5 (fun g a q x wr => w = wr ∧ ∃ i : Nat, i ≤ 4 ∧ i ≤ l.length ∧ g = 5 - i ∧ x = .int .i64 i ∧ a = .int .i64 (Var.valL (l.take i) : Int) ∧ q = .int .i64 ((128 ^ i : Nat) : Int) ∧ Hid (∀ c ∈ l.take i, Var.ends c = false))
  case atStart => exact ⟨rfl, 0, by decide, Nat.zero_le _, rfl, rfl, rfl, rfl, Lib.hid (by simp)⟩
  case round =>
    obtain ⟨rfl, i, hi4, hil, rfl, rfl, rfl, rfl, hno⟩ := hrel
    by_cases hlt : i < l.length
    · have hlt' : (i : Int) < (l.length : Int) := by omega
      obtain ⟨b, off, rfl, hb, hc⟩ := hp.out (by omega)
      have hcell := hc i hlt
      obtain ⟨c, hcc⟩ : ∃ c, l[i] = c := ⟨_, rfl⟩
      rw [hcc] at hcell
      have hcb : (c.toNat : Int) < 256 := by have := c.toNat_lt; omega
      clear hc
      have hvb := Var.valL_lt (l.take i)
      rw [List.length_take, Nat.min_eq_left hil] at hvb
      by_cases hi : i = 4
      · subst hi
        have hres := Lib.hid (take_none_long (none_of hno.out) hil)
        clear hvb hcc hi4
        have hlt2 : (4 : Int) < (l.length : Int) := by omega
        have hcell2 : w.cell? ⟨b, off + 4, none⟩ = some (.int .u8 (c.toNat : Int)) := hcell
        clear hlt' hcell
        rw [show ((128 ^ 4 : Nat) : Int) = 268435456 from rfl, show ((4 : Nat) : Int) = 4 from rfl]
        go_wp2_with fail
        go_ret3
        exact ⟨ret_three hres.out, rfl⟩
      · have hval := val_take hlt hcc
        obtain ⟨M, hM⟩ : ∃ M, Var.valL (l.take i) = M := ⟨_, rfl⟩
        rw [hM] at hvb hval ⊢
        have hi3 : i ≤ 3 := by omega
        have hP2 : 128 ^ i ≤ 128 ^ 3 := Nat.pow_le_pow_right (by decide) hi3
        have hQ : 128 ^ (i + 1) = 128 ^ i * 128 := Nat.pow_succ ..
        obtain ⟨P, hP⟩ : ∃ P, 128 ^ i = P := ⟨_, rfl⟩
        rw [hP] at hvb hval hP2 hQ ⊢
        obtain ⟨x, hx, hxc⟩ : ∃ x : Nat, x < 128 ∧ c.toNat % 128 = x := ⟨_, Nat.mod_lt _ (by decide), rfl⟩
        rw [hxc] at hval
        have hYb : P * x ≤ P * 127 := Nat.mul_le_mul_left _ (by omega)
        obtain ⟨Y, hY⟩ : ∃ Y, P * x = Y := ⟨_, rfl⟩
        rw [hY] at hval hYb
        have hxp : (x : Int) * (P : Int) = (Y : Int) := by rw [← hY, Int.natCast_mul, Int.mul_comm]
        have hxi : (c.toNat : Int) % 128 = (x : Int) := by omega
        have hY3 : (Y : Int) < 268435456 := by omega
        have hP3 : (P : Int) ≤ 2097152 := by omega
        have hM3 : (M : Int) < 2097152 := by omega
        have hi3' : (i : Int) ≤ 3 := by omega
        have hi4' : ((i : Int) == 4) = false := beq_eq_false_iff_ne.2 (by omega)
        have hx3 : (x : Int) < 128 := by omega
        have hMY : M + Y = Y + M := Nat.add_comm ..
        cases hE : Var.ends c with
        | true =>
          have hsm := some_of hlt (by omega) hcc hE hno.out
          have hE' := ends_yes hE
          have hxi2 : (c.toNat : Int) = (x : Int) := by omega
          by_cases hf : c = 0 ∧ 0 < i
          · obtain ⟨rfl, h0⟩ := hf
            have hres := Lib.hid (take_form (l := l) hlt hsm h0 hcc)
            obtain rfl : x = 0 := by rw [← hxc]; rfl
            obtain rfl : Y = 0 := by rw [← hY]; simp
            clear hval hcc hxc hsm hY hYb hP hP2 hQ hM hMY hvb hi hi4 hi3 hxi2 hxp hE hx hil hxi hE' hx3 hY3 hcb hlt
            have hcell2 : w.cell? ⟨b, off + i, none⟩ = some (.int .u8 0) := hcell
            clear hcell
            go_wp2_with fail
            go_ret3
            exact ⟨ret_three hres.out, rfl⟩
          · have htg := take_good (l := l) hlt hsm (by rw [hcc]; exact (Nat.eq_zero_or_pos i).elim (fun h => .inl (by omega)) (fun h => .inr fun hz => hf ⟨hz, h⟩))
            rw [hval] at htg
            obtain ⟨N, hN⟩ : ∃ N, M + Y = N := ⟨_, rfl⟩
            have hMYN : (M : Int) + (Y : Int) = (N : Int) := by omega
            rw [hN] at htg
            replace htg := Lib.hid htg
            by_cases hc0 : c = 0
            · have hi0 : i = 0 := (Nat.eq_zero_or_pos i).elim id (fun h => absurd ⟨hc0, h⟩ hf)
              have hid : decide (0 < i) = false := by simp; omega
              have hcz : ((c.toNat : Int) == 0) = true := by subst hc0; rfl
              clear hval hcc hxc hsm hY hYb hP hP2 hQ hM hMY hvb hi hi4 hi3 hxi2 hE hx hil hf hN hc0 hi0
              go_wp2_with fail
              go_ret3
              exact ⟨ret_three htg.out, rfl⟩
            · have hcz := beq0_u8 hc0
              clear hval hcc hxc hsm hY hYb hP hP2 hQ hM hMY hvb hi hi4 hi3 hxi2 hE hx hil hf hN hc0
              go_wp2_with fail
              go_ret3
              exact ⟨ret_three htg.out, rfl⟩
        | false =>
          have hE' := ends_no hE
          obtain ⟨N, hN⟩ : ∃ N, M + Y = N := ⟨_, rfl⟩
          have hMYN : (M : Int) + (Y : Int) = (N : Int) := by omega
          have hQ' : ((128 ^ (i + 1) : Nat) : Int) = (P : Int) * 128 := by rw [hQ]; omega
          rw [hN] at hval
          replace hQ' := Lib.hid hQ'
          replace hcc := Lib.hid hcc
          replace hE := Lib.hid hE
          replace hval := Lib.hid hval
          have hi5 : i + 1 ≤ 4 := by omega
          have hm5 : 5 - (i + 1) < 5 - i := by omega
          clear hxc hY hYb hP hP2 hQ hM hMY hvb hi hi4 hi3 hx hil hN
          go_wp2_with fail
          go_roundg (5 - (i + 1))
          case measure => exact hm5
          case rel =>
            refine ⟨rfl, i + 1, hi5, by omega, rfl, by go_num, ?_, ?_, Lib.hid ?_⟩
            · rw [hval.out, ← hMYN]
            · rw [hQ'.out]
            · intro c' hc'
              rw [List.take_succ_eq_append_getElem hlt, hcc.out] at hc'
              rcases List.mem_append.1 hc' with h | h
              · exact hno.out c' h
              · rw [List.mem_singleton.1 h]; exact hE.out
    · obtain rfl : i = l.length := by omega
      have hno' : ∀ c ∈ l.take 4, Var.ends c = false := fun c hc => hno.out c (by rw [List.take_of_length_le (by omega)] at hc ⊢; exact hc)
      have hlt' : decide ((l.length : Int) < (l.length : Int)) = false := by simp
      by_cases h4 : l.length = 4
      · have hres := Lib.hid (take_none_long (none_of hno') (by omega))
        have h4' : ((l.length : Int) == 4) = true := beq_iff_eq.2 (by omega)
        clear h4 hlt hi4 hil hno'
        go_wp2_with fail
        go_ret3
        exact ⟨ret_three hres.out, rfl⟩
      · have hres := Lib.hid (take_none_short (none_of hno') (by omega))
        have h4' : ((l.length : Int) == 4) = false := beq_eq_false_iff_ne.2 (by omega)
        clear h4 hlt hi4 hil hno'
        go_wp2_with fail
        go_ret3
        exact ⟨ret_three hres.out, rfl⟩

end Go.Proofs.Ytconccgfhdmafaa
