/- Plain mathematics of layer 2: numbers as bytes of seven digits of two. -/
namespace Go.Proofs.YtnlnkjaapdefiaaGreatDoor.Var
set_option linter.unusedSimpArgs false
set_option linter.unusedVariables false
/-- the bytes of a number -/
def putN (n : Nat) : List UInt8 := if h : n < 128 then [UInt8.ofNat n] else UInt8.ofNat (n % 128 + 128) :: putN (n / 128)
termination_by n
decreasing_by omega
def putI (n : Int) : List UInt8 := if 0 ≤ n ∧ n ≤ 268435455 then putN n.toNat else []
def ends (c : UInt8) : Bool := decide (c.toNat < 128)
def idx (l : List UInt8) : Int := match l.findIdx? ends with
  | some k => (k : Int)
  | none => -1
def valL : List UInt8 → Nat
  | [] => 0
  | c :: r => c.toNat % 128 + 128 * valL r
def takeL (b : List UInt8) : Int × Int × Int := match (b.take 4).findIdx? ends with
  | none => if 4 ≤ b.length then (0, 0, 3) else (0, 0, 1)
  | some k => if 0 < k ∧ b[k]? = some 0 then (0, 0, 2) else ((valL (b.take (k + 1)) : Int), (k : Int) + 1, 0)
theorem putN_small {n : Nat} (h : n < 128) : putN n = [UInt8.ofNat n] := by rw [putN, dif_pos h]
theorem putN_big {n : Nat} (h : 128 ≤ n) : putN n = UInt8.ofNat (n % 128 + 128) :: putN (n / 128) := by rw [putN, dif_neg (by omega)]
theorem valL_lt : ∀ l : List UInt8, valL l < 128 ^ l.length
  | [] => by simp [valL]
  | c :: r => by
    have := valL_lt r
    simp only [valL, List.length_cons, Nat.pow_succ]
    omega
theorem put_len1 {n : Nat} (h : n < 128) : (putN n).length = 1 := by rw [putN_small h]; rfl
theorem put_lenS {n : Nat} (h : 128 ≤ n) : (putN n).length = (putN (n / 128)).length + 1 := by rw [putN_big h]; rfl
theorem put_len_pos (n : Nat) : 1 ≤ (putN n).length := by
  rcases Nat.lt_or_ge n 128 with h | h
  · rw [put_len1 h]; exact Nat.le_refl _
  · rw [put_lenS h]; omega
theorem put_len_le (n : Nat) (h : n ≤ 268435455) : (putN n).length ≤ 4 := by
  rcases Nat.lt_or_ge n 128 with h1 | h1
  · rw [put_len1 h1]; omega
  rw [put_lenS h1]
  rcases Nat.lt_or_ge (n / 128) 128 with h2 | h2
  · rw [put_len1 h2]; omega
  rw [put_lenS h2]
  rcases Nat.lt_or_ge (n / 128 / 128) 128 with h3 | h3
  · rw [put_len1 h3]; omega
  rw [put_lenS h3]
  rw [put_len1 (by omega)]
  omega
theorem ends_low {n : Nat} (h : n < 128) : ends (UInt8.ofNat n) = true := by
  unfold ends
  rw [UInt8.toNat_ofNat']
  simp
  omega
theorem ends_high {n : Nat} (h1 : 128 ≤ n) (h : n < 256) : ends (UInt8.ofNat n) = false := by
  unfold ends
  rw [UInt8.toNat_ofNat']
  simp
  omega
/-- the shape of what is put -/
theorem put_shape (n : Nat) : ∃ (hs : List UInt8) (e : UInt8), putN n = hs ++ [e] ∧ (∀ c ∈ hs, ends c = false) ∧ ends e = true ∧ (hs ≠ [] → e ≠ 0) ∧ valL (hs ++ [e]) = n := by
  induction n using Nat.strongRecOn with
  | ind n ih =>
    rcases Nat.lt_or_ge n 128 with h | h
    · refine ⟨[], UInt8.ofNat n, by rw [putN_small h]; rfl, by simp, ends_low h, by simp, ?_⟩
      simp [valL, UInt8.toNat_ofNat']
      omega
    · obtain ⟨hs, e, h1, h2, h3, h4, h5⟩ := ih (n / 128) (by omega)
      refine ⟨UInt8.ofNat (n % 128 + 128) :: hs, e, by rw [putN_big h, h1]; rfl, ?_, h3, ?_, ?_⟩
      · intro c hc
        rcases List.mem_cons.1 hc with rfl | hc
        · exact ends_high (by omega) (by omega)
        · exact h2 c hc
      · intro _
        by_cases hh : hs = []
        · subst hh
          intro he
          subst he
          simp [valL] at h5
          omega
        · exact h4 hh
      · simp only [List.cons_append, valL, h5, UInt8.toNat_ofNat']
        omega
theorem find_shape (hs : List UInt8) (e : UInt8) (r : List UInt8) (h1 : ∀ c ∈ hs, ends c = false) (h2 : ends e = true) : (hs ++ e :: r).findIdx? ends = some hs.length := by
  rw [List.findIdx?_eq_some_iff_getElem]
  refine ⟨by simp, by simpa using h2, fun j hj => ?_⟩
  rw [List.getElem_append_left (by simpa using hj)]
  simp [h1 _ (List.getElem_mem _)]
/-- what is put is taken -/
theorem take_put (n : Nat) (hn : n ≤ 268435455) (more : List UInt8) : takeL (putN n ++ more) = ((n : Int), ((putN n).length : Int), 0) := by
  have hl := put_len_le n hn
  obtain ⟨hs, e, h1, h2, h3, h4, h5⟩ := put_shape n
  rw [h1] at hl ⊢
  have hl' : hs.length ≤ 3 := by simpa using hl
  have hf : ((hs ++ [e] ++ more).take 4).findIdx? ends = some hs.length := by
    have e1 : (hs ++ [e] ++ more).take 4 = hs ++ e :: (more.take (3 - hs.length)) := by
      rw [List.append_assoc, List.take_append, List.take_of_length_le (by omega)]
      congr 1
      rw [show 4 - hs.length = (3 - hs.length) + 1 by omega]
      rfl
    rw [e1]
    exact find_shape _ _ _ h2 h3
  unfold takeL
  rw [hf]
  simp only
  have hg : (hs ++ [e] ++ more)[hs.length]? = some e := by simp
  rw [hg]
  have hne : ¬ (0 < hs.length ∧ some e = some 0) := by
    rintro ⟨ha, hb⟩
    exact h4 (by intro hh; simp [hh] at ha) (Option.some.inj hb)
  rw [if_neg hne]
  have ht : (hs ++ [e] ++ more).take (hs.length + 1) = hs ++ [e] := by
    rw [List.take_append_of_le_length (by simp), List.take_of_length_le (by simp)]
  rw [ht, h5]
  simp
theorem valL_append (a b : List UInt8) : valL (a ++ b) = valL a + 128 ^ a.length * valL b := by
  induction a with
  | nil => simp [valL]
  | cons c r ih =>
    simp only [List.cons_append, valL, ih, List.length_cons, Nat.pow_succ]
    have e : 128 * (valL r + 128 ^ r.length * valL b) = 128 * valL r + 128 ^ r.length * 128 * valL b := by
      rw [Nat.mul_add, ← Nat.mul_assoc, Nat.mul_comm 128 (128 ^ r.length)]
    omega
/-- of such a row these are what is put -/
theorem put_val : ∀ (hs : List UInt8) (e : UInt8), (∀ c ∈ hs, ends c = false) → ends e = true → (hs ≠ [] → e ≠ 0) → putN (valL (hs ++ [e])) = hs ++ [e]
  | [], e, _, h2, _ => by
    have h : e.toNat < 128 := by simpa [ends] using h2
    have hv : valL ([] ++ [e]) = e.toNat := by simp [valL]; omega
    rw [hv, putN_small h]
    simp
  | c :: r, e, h1, h2, h3 => by
    have he : e ≠ 0 := h3 (by simp)
    have ih := put_val r e (fun x hx => h1 x (List.mem_cons_of_mem _ hx)) h2 (fun _ => he)
    have hc : 128 ≤ c.toNat := by have := h1 c (List.mem_cons_self ..); simpa [ends] using this
    have hc2 := c.toNat_lt
    have hpos : 0 < valL (r ++ [e]) := by
      rw [valL_append]
      have h : e.toNat < 128 := by simpa [ends] using h2
      have h0 : e.toNat ≠ 0 := fun h0 => he (UInt8.toNat_inj.1 (by simpa using h0))
      have hv : valL [e] = e.toNat := by simp [valL]; omega
      rw [hv]
      have : 0 < 128 ^ r.length * e.toNat := Nat.mul_pos (Nat.pow_pos (by decide)) (by omega)
      omega
    have hv : valL (c :: r ++ [e]) = c.toNat % 128 + 128 * valL (r ++ [e]) := rfl
    rw [hv, putN_big (by omega)]
    have e1 : (c.toNat % 128 + 128 * valL (r ++ [e])) / 128 = valL (r ++ [e]) := by omega
    have e2 : (c.toNat % 128 + 128 * valL (r ++ [e])) % 128 + 128 = c.toNat := by omega
    rw [e1, e2, ih]
    simp
/-- of any bytes that begin with a number: the shape of these bytes -/
theorem take_shape (b : List UInt8) : (∃ c, takeL b = (0, 0, c) ∧ 1 ≤ c ∧ c ≤ 3) ∨ ∃ (hs : List UInt8) (e : UInt8) (r : List UInt8), b = hs ++ e :: r ∧ hs.length ≤ 3 ∧ (∀ c ∈ hs, ends c = false) ∧ ends e = true ∧ (hs ≠ [] → e ≠ 0) ∧ takeL b = ((valL (hs ++ [e]) : Int), (hs.length : Int) + 1, 0) := by
  unfold takeL
  cases hf : (b.take 4).findIdx? ends with
  | none =>
    refine .inl ?_
    simp only
    split
    · exact ⟨3, rfl, by decide, by decide⟩
    · exact ⟨1, rfl, by decide, by decide⟩
  | some k =>
    simp only
    split
    · exact .inl ⟨2, rfl, by decide, by decide⟩
    · rename_i hne
      refine .inr ?_
      rw [List.findIdx?_eq_some_iff_getElem] at hf
      obtain ⟨hk, h1, h2⟩ := hf
      have hk4 : k < 4 ∧ k < b.length := by
        rw [List.length_take] at hk
        omega
      have hb : b = b.take k ++ b[k] :: b.drop (k + 1) := by
        rw [List.getElem_cons_drop, List.take_append_drop]
      have hlen : (b.take k).length = k := by rw [List.length_take]; omega
      refine ⟨b.take k, b[k], b.drop (k + 1), hb, by omega, ?_, ?_, ?_, ?_⟩
      · intro c hc
        obtain ⟨j, hj, rfl⟩ := List.getElem_of_mem hc
        have hj' : j < k := by omega
        have := h2 j hj'
        rw [List.getElem_take] at this ⊢
        simpa using this
      · rw [List.getElem_take] at h1
        exact h1
      · intro hh he
        refine hne ⟨?_, ?_⟩
        · rcases Nat.eq_zero_or_pos k with h0 | h0
          · subst h0; simp at hh
          · exact h0
        · rw [List.getElem?_eq_getElem hk4.2, he]
      · rw [List.take_succ_eq_append_getElem hk4.2, hlen]
end Go.Proofs.YtnlnkjaapdefiaaGreatDoor.Var
