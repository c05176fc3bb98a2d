/- The walks of layer 2's statements, on: VarintDigits. -/
import Derived.Test.YtomiidgjiepihaaC3
namespace Go.Proofs.Ytomiidgjiepihaa
open Go.RowKit Go.Lib

/-- a byte of such a row -/
theorem shape_byte {hs L : List UInt8} {e : UInt8} (h1 : ∀ c ∈ hs, Var.ends c = false) (h2 : Var.ends e = true) (hL : hs ++ [e] = L) (j : Nat) (c : UInt8) (hj : j < L.length) (hc : L[j] = c) :
    ((j : Int) < (hs.length : Int) ∧ (128 : Int) ≤ (c.toNat : Int)) ∨ (decide ((j : Int) < (hs.length : Int)) = false ∧ decide ((128 : Int) ≤ (c.toNat : Int)) = false) := by
  subst hL
  by_cases h : j < hs.length
  · refine .inl ⟨by omega, ?_⟩
    rw [List.getElem_append_left h] at hc
    have := h1 c (by rw [← hc]; exact List.getElem_mem _)
    simp [Var.ends] at this
    omega
  · refine .inr ⟨by simp; omega, ?_⟩
    have hj' : j = hs.length := by simp at hj; omega
    subst hj'
    simp at hc
    subst hc
    simp [Var.ends] at h2
    simp
    omega

set_option maxHeartbeats 1600000 in
theorem varintDigits_walk (v : Value) (bs : List UInt8) (w : World) (hr : RBytes w v bs) :
    Calls Try.prog 7 #[v] w fun e w' => e = .returned (.bool true) ∧ Below w.heap.size w w' := by
  obtain ⟨p, cap, rfl⟩ := bytes_form hr
  have hp := bytes_at hr
  replace hr := Lib.hid hr
  rcases Var.take_shape bs with ⟨c, htk, hc1, hc3⟩ | ⟨hs, e, r, hbs, hlen, h1, h2, h3, htk⟩
  · replace htk := Lib.hid htk
    have hc0 : (c != 0) = true := by simp; omega
    clear hp
    go_enter Try.func7, Try.ntmps7
    go_wp2_with fail
    refine (awake_any w).mono ?_
    rintro e w1 ⟨rfl, hb1⟩
    have hr1 := Lib.hid (bytes_below hr.out hb1)
    go_wp2_with fail
    refine (take_any _ _ _ hr1.out).mono ?_
    rintro e w2 ⟨rfl, rfl⟩
    rw [htk.out]
    go_wp2_with fail
    go_ret
    exact ⟨rfl, hb1⟩
  · obtain ⟨L, hL⟩ : ∃ L, hs ++ [e] = L := ⟨_, rfl⟩
    have hsb := shape_byte h1 h2 hL
    have hLl : L.length = hs.length + 1 := by rw [← hL]; simp
    have hbl : L.length ≤ bs.length := by rw [hbs, hLl]; simp
    have hbL : ∀ j (h : j < L.length) (h' : j < bs.length), bs[j] = L[j] := by
      intro j h h'
      have e1 : bs = L ++ r := by rw [hbs, ← hL]; simp
      simp only [e1]
      rw [List.getElem_append_left h]
    obtain ⟨b, off, rfl, hb, hc⟩ := hp (by omega)
    have hcL : ∀ j (h : j < L.length), w.cell? ⟨b, off + j, none⟩ = some (.int .u8 (L[j].toNat : Int)) := fun j h => by rw [hc j (by omega), hbL j h (by omega)]
    have hval := val_bound L
    rw [hL] at htk
    obtain ⟨m, hm⟩ : ∃ m, hs.length = m := ⟨_, rfl⟩
    rw [hm] at htk hsb hLl hlen
    have hlen' : (m : Int) ≤ 3 := by omega
    have hkl : (m : Int) + 1 ≤ (bs.length : Int) := by omega
    obtain ⟨N, hN⟩ : ∃ N, Var.valL L = N := ⟨_, rfl⟩
    rw [hN] at htk
    replace htk := Lib.hid htk
    replace hsb := Lib.hid hsb
    replace hcL := Lib.hid hcL
    replace hval := Lib.hid hval
    replace hN := Lib.hid hN
    clear hp hc hbL h1 h2 h3 hL hbs hm
    go_enter Try.func7, Try.ntmps7
    go_wp2_with fail
    refine (awake_any w).mono ?_
    rintro e w1 ⟨rfl, hb1⟩
    have hr1 := Lib.hid (bytes_below hr.out hb1)
    have hcL1 : Hid (∀ j (h : j < L.length), w1.cell? ⟨b, off + j, none⟩ = some (.int .u8 (L[j].toNat : Int))) := Lib.hid (fun j h => by rw [hb1.cell hb]; exact hcL.out j h)
    replace hb1 := Lib.hid hb1
    go_wp2_with fail
    refine (take_any _ _ _ hr1.out).mono ?_
    rintro e w2 ⟨rfl, rfl⟩
    rw [htk.out]
    go_wp2_with fail
    go_loopg [7, 8] L.length (fun k x i wr => w1 = wr ∧ k ≤ L.length ∧ i = .int .i64 ((k : Int) - 1) ∧ ∃ M : Nat, x = .int .i64 M ∧ Hid (Var.valL (L.drop k) = M))
    case atStart =>
      refine ⟨rfl, Nat.le_refl _, ?_, 0, rfl, Lib.hid (by simp [Var.valL])⟩
      congr 1
      omega
    case round =>
      obtain ⟨rfl, hk, rfl, M, rfl, hM⟩ := hrel
      have hM2 : (M : Int) < 268435456 := by have := hval.out gk (by omega); rw [hM.out] at this; omega
      by_cases hlt : 0 < gk
      · obtain ⟨j, rfl⟩ : ∃ j, gk = j + 1 := ⟨gk - 1, by omega⟩
        have hj : ((j + 1 : Nat) : Int) - 1 = (j : Int) := by omega
        rw [hj]
        clear hj
        have hjl : j < L.length := by omega
        have hcell := hcL1.out j hjl
        obtain ⟨c, hcc⟩ : ∃ c, L[j] = c := ⟨_, rfl⟩
        have hby := hsb.out j c hjl hcc
        rw [hcc] at hcell
        replace hcc := Lib.hid hcc
        have hcb : (c.toNat : Int) < 256 := by have := c.toNat_lt; omega
        have hjb : (j : Int) < (bs.length : Int) := by omega
        rcases hby with ⟨d1, d2⟩ | ⟨d1, d2⟩
        case' inr =>
          have d3 : decide (j < m) = false := by simp at d1; simp; omega
          clear d1
        all_goals
          go_wp2_with fail
          go_roundg j
          case measure => omega
          case rel =>
            refine ⟨rfl, by omega, by go_num, 128 * M + c.toNat % 128, ?_, Lib.hid ?_⟩
            · congr 1; omega
            · rw [val_drop hjl hcc.out, hM.out]; omega
      · obtain rfl : gk = 0 := by omega
        have hMN : M = N := by rw [← hM.out, ← hN.out]; rfl
        subst hMN
        go_wp2_with fail
        go_ret
        exact ⟨rfl, hb1.out⟩
end Go.Proofs.Ytomiidgjiepihaa
