/- Layer 5, plain mathematics: of what kinds the two of a pair are. -/
import Derived.Test.YtgahfbcdnbhikaaDoorPaX
namespace Go.Proofs.YtgahfbcdnbhikaaDoor.Par

theorem gcb_v : ∀ k : Fin 21, Prp.gcbI (4449 + (k.1 : Int)) = 10 := by decide +kernel
theorem gcb_t : ∀ k : Fin 27, Prp.gcbI (4520 + (k.1 : Int)) = 11 := by decide +kernel
theorem gcb_l : ∀ k : Fin 19, Prp.gcbI (4352 + (k.1 : Int)) = 9 := by decide +kernel
theorem gcb_vowel {b : Int} (h1 : 4449 ≤ b) (h2 : b ≤ 4469) : Prp.gcbI b = 10 := by
  have h := gcb_v ⟨(b - 4449).toNat, by omega⟩
  rw [show 4449 + (((b - 4449).toNat : Nat) : Int) = b by omega] at h
  exact h
theorem gcb_tail {b : Int} (h1 : 4520 ≤ b) (h2 : b ≤ 4546) : Prp.gcbI b = 11 := by
  have h := gcb_t ⟨(b - 4520).toNat, by omega⟩
  rw [show 4520 + (((b - 4520).toNat : Nat) : Int) = b by omega] at h
  exact h
theorem gcb_lead {b : Int} (h1 : 4352 ≤ b) (h2 : b ≤ 4370) : Prp.gcbI b = 9 := by
  have h := gcb_l ⟨(b - 4352).toNat, by omega⟩
  rw [show 4352 + (((b - 4352).toNat : Nat) : Int) = b by omega] at h
  exact h
theorem mrk_syl {r : Int} (h1 : 0xAC00 ≤ r) (h2 : r ≤ 0xD7A3) : Prp.mrkB r = false := by unfold Prp.mrkB; rw [(Prp.syl h1 h2).1]; rfl
theorem mrk_gcb {r : Int} (h : Prp.mrkB r = true) : Prp.gcbI r = 4 := by
  refine Prp.ccc_gcb fun e => ?_
  unfold Prp.mrkB at h
  rw [e] at h
  cases h

/-- of what kinds the two are -/
theorem join_parts {a b x : Int} (h : joinI a b = some x) : Prp.mrkB a = false ∧ (Prp.mrkB b = true ∨ (Prp.gcbI b = 10 ∧ Prp.gcbI a = 9) ∨ (Prp.gcbI b = 11 ∧ Prp.gcbI a = 12)) := by
  unfold joinI at h
  by_cases h1 : LV a b
  · unfold LV at h1
    exact ⟨Dcp.mrk_jamo (by omega), .inr (.inl ⟨gcb_vowel (by omega) (by omega), gcb_lead (by omega) (by omega)⟩)⟩
  rw [if_neg h1] at h
  by_cases h2 : LVT a b
  · unfold LVT at h2
    refine ⟨mrk_syl (by omega) (by omega), .inr (.inr ⟨gcb_tail (by omega) (by omega), ?_⟩)⟩
    rw [(Prp.syl (r := a) (by omega) (by omega)).2.2, if_pos (by omega)]
  rw [if_neg h2] at h
  have hm := rows_made _ (lookJ_mem h)
  exact ⟨hm.2.1, .inl hm.2.2.2.1⟩

/-- the statement of what is no part -/
theorem none_of {a b : Int} (h : Prp.mrkB a = true ∨ (Prp.mrkB b = false ∧ Prp.gcbI b ≠ 10 ∧ Prp.gcbI b ≠ 11) ∨ ((Prp.gcbI b = 10 ∨ Prp.gcbI b = 11) ∧ Prp.gcbI a ≠ 9 ∧ Prp.gcbI a ≠ 12)) : joinI a b = none := by
  cases hj : joinI a b with
  | none => rfl
  | some x =>
    exfalso
    obtain ⟨h1, h2⟩ := join_parts hj
    rcases h with h | ⟨h3, h4, h5⟩ | ⟨h3, h4, h5⟩
    · rw [h1] at h; cases h
    · rcases h2 with h2 | ⟨h2, _⟩ | ⟨h2, _⟩
      · rw [h3] at h2; cases h2
      · exact h4 h2
      · exact h5 h2
    · rcases h2 with h2 | ⟨_, h2⟩ | ⟨_, h2⟩
      · have := mrk_gcb h2; omega
      · exact h4 h2
      · exact h5 h2

/-- what two values are is made of what these are made of -/
theorem back_made {r a b : Int} (h : backI r = some (a, b)) :
    Dcp.fullI r = Dcp.fullI a ++ Dcp.fullI b ∧ Prp.mrkB a = false ∧ Dcp.fullI b = [b] ∧ (b < 0xAC00) ∧ (Prp.mrkB b = true ∨ Prp.gcbI b = 10 ∨ Prp.gcbI b = 11) ∧ Dcp.fullI r ≠ [r] ∧ Prp.mrkB r = false
    ∧ 0 < a ∧ a < 65536 ∧ 0 < b := by
  unfold backI at h
  by_cases h1 : Syl r
  · rw [if_pos h1] at h
    unfold Syl at h1
    have hf := Dcp.full_syl h1
    obtain ⟨s, hs⟩ : ∃ s, r - 44032 = s := ⟨_, rfl⟩
    rw [show r - 0xAC00 = s from hs] at h hf
    have hs0 : 0 ≤ s ∧ s < 11172 := by omega
    unfold sylB at h
    unfold Dcp.sylL at hf
    by_cases ht : s % 28 = 0
    · rw [if_pos ht] at h hf
      have e : 0x1100 + s / 588 = a ∧ 0x1161 + s % 588 / 28 = b := by simpa using h
      rw [e.1, e.2] at hf
      have fa : Dcp.fullI a = [a] := Dcp.full_jamo (by omega)
      have fb : Dcp.fullI b = [b] := Dcp.full_jamo (by omega)
      refine ⟨by rw [hf, fa, fb]; rfl, Dcp.mrk_jamo (by omega), fb, by omega, .inr (.inl (gcb_vowel (by omega) (by omega))), ?_, mrk_syl (by omega) (by omega), by omega, by omega, by omega⟩
      rw [hf]
      simp
    · rw [if_neg ht] at h hf
      have e : 0xAC00 + s - s % 28 = a ∧ 0x11A7 + s % 28 = b := by simpa using h
      have fb : Dcp.fullI b = [b] := Dcp.full_jamo (by omega)
      have fa : Dcp.fullI a = [0x1100 + s / 588, 0x1161 + s % 588 / 28] := by
        rw [Dcp.full_syl (by omega)]
        unfold Dcp.sylL
        rw [if_pos (by omega)]
        have e1 : (a - 0xAC00) / 588 = s / 588 := by omega
        have e2 : (a - 0xAC00) % 588 / 28 = s % 588 / 28 := by omega
        rw [e1, e2]
      refine ⟨by rw [hf, fa, fb, e.2]; rfl, mrk_syl (by omega) (by omega), fb, by omega, .inr (.inr (gcb_tail (by omega) (by omega))), ?_, mrk_syl (by omega) (by omega), by omega, by omega, by omega⟩
      rw [hf]
      simp
  · rw [if_neg h1] at h
    have hm := lookB_mem h
    obtain ⟨m1, m2, m3, m4, m5, m6⟩ := rows_made _ hm
    have hf := rows_far _ hm
    have hb := rows_bd _ hm
    dsimp only at m1 m2 m3 m4 m5 m6 hf hb
    exact ⟨m1, m2, m3, by omega, .inl m4, m5, m6, by omega, by omega, by omega⟩

end Go.Proofs.YtgahfbcdnbhikaaDoor.Par
