/- Layer 16: are two channels the same? -/
import Derived.Test.YtcbfgcmdlfediaaChR4
import Derived.Test.YtcbfgcmdlfediaaBasP
namespace Go.Proofs.Ytcbfgcmdlfediaa
set_option linter.unusedSimpArgs false
set_option linter.unusedVariables false
open Go.RowKit Go.Lib
open Stg (Ch)
set_option maxHeartbeats 3200000 in
set_option maxRecDepth 100000 in
theorem rsame16 (J K : Nat → Prop) (va vb : Value) (a b : Ch) (w : World) (hfa : a.Few) (ha : RCh J w va a) (hb : RCh K w vb b) : Calls Try.prog 32 #[va, vb] w fun e w' => e = .returned (.bool (decide (a = b))) ∧ Below w.heap.size w w' := by
  obtain ⟨pa, ca, rfl, hra⟩ := rch_form ha
  obtain ⟨pb, cb, rfl, hrb⟩ := rch_form hb
  obtain ⟨hfn, hfl⟩ := hfa
  obtain ⟨la, xa⟩ := a
  obtain ⟨lb, xb⟩ := b
  dsimp only at *
  have hbad : la ≠ lb ∨ xa ≠ xb → decide ((⟨la, xa⟩ : Ch) = ⟨lb, xb⟩) = false := fun h => by
    rw [decide_eq_false_iff_not, Ch.mk.injEq]
    intro h2
    rcases h with h | h
    · exact h h2.1
    · exact h h2.2
  have hgood : la = lb → xa = xb → decide ((⟨la, xa⟩ : Ch) = ⟨lb, xb⟩) = true := fun h h2 => by rw [h, h2]; simp
  obtain ⟨E, hE⟩ : ∃ E, decide ((⟨la, xa⟩ : Ch) = ⟨lb, xb⟩) = E := ⟨_, rfl⟩
  rw [hE] at hbad hgood ⊢
  obtain ⟨na, hna⟩ : ∃ n, la.length = n := ⟨_, rfl⟩
  obtain ⟨nb, hnb⟩ : ∃ n, lb.length = n := ⟨_, rfl⟩
  rw [hna] at hfn
  rw [hna, hnb]
  replace hna := Lib.hid hna
  replace hnb := Lib.hid hnb
  have hB : Below w.heap.size w ((w.alloc (.cells #[.slice pa na ca, .bool xa] 24)).alloc (.cells #[.slice pb nb cb, .bool xb] 24)) := (below_new w _).alloc (by simp) _
  have x0 := blk_alloc (blk_new w #[.slice pa na ca, .bool xa] 24) (.cells #[.slice pb nb cb, .bool xb] 24)
  have x1 := blk_new (w.alloc (.cells #[.slice pa na ca, .bool xa] 24)) #[.slice pb nb cb, .bool xb] 24
  rw [show (w.alloc (.cells #[.slice pa na ca, .bool xa] 24)).heap.size = w.heap.size + 1 by simp] at x1
  have ra := rro_but hra (only_below hB)
  have rb := rro_but hrb (only_below hB)
  obtain ⟨W, hW⟩ : ∃ W, ((w.alloc (.cells #[.slice pa na ca, .bool xa] 24)).alloc (.cells #[.slice pb nb cb, .bool xb] 24)) = W := ⟨_, rfl⟩
  rw [hW] at hB x0 x1 ra rb
  have hlt1 : w.heap.size + 1 < W.heap.size := blk_lt x1
  replace hB := Lib.hid hB
  replace x0 := Lib.hid x0
  replace x1 := Lib.hid x1
  replace ra := Lib.hid ra
  replace rb := Lib.hid rb
  replace hbad := Lib.hid hbad
  replace hgood := Lib.hid hgood
  replace hfl := Lib.hid hfl
  replace hW := Lib.hid hW
  clear hE hra hrb ha hb
  go_enter Try.func32, Try.ntmps32
  go_upto_region 1 with (fail)
  rw [hW.out]
  have c0 := blk_cell x0.out 0 (.slice pa na ca) rfl
  have c1 := blk_cell x0.out 1 (.bool xa) rfl
  have d0 := blk_cell x1.out 0 (.slice pb nb cb) rfl
  have d1 := blk_cell x1.out 1 (.bool xb) rfl
  by_cases hl : na = nb
  · subst hl
    by_cases hx : xa = xb
    · subst hx
      go_wp2_with fail
      clear c0 c1 d0 d1
      go_loopg [5] na (fun g vi wr => ∃ k : Nat, k ≤ na ∧ vi = .int .i64 k ∧ g = na - k ∧ (∀ j (h : j < la.length) (h2 : j < lb.length), j < k → la[j] = lb[j]) ∧ Below W.heap.size W wr)
      case atStart => exact ⟨0, Nat.zero_le _, rfl, rfl, fun j h h2 hj => by omega, Below.refl _ _⟩
      case round =>
        obtain ⟨k, hk, rfl, rfl, hok, hbel⟩ := hrel
        have c0 := blk_cell (blk_below x0.out hbel) 0 (.slice pa na ca) rfl
        have d0 := blk_cell (blk_below x1.out hbel) 0 (.slice pb na cb) rfl
        by_cases hlt : k < na
        · have hlt' : (k : Int) < (na : Int) := by omega
          have hltb : k < lb.length := by rw [hnb.out]; exact hlt
          have hlta : k < la.length := by rw [hna.out]; exact hlt
          obtain ⟨ba, oa, rfl, hba, _, hca⟩ := rro_at ra.out (by rw [hna.out]; omega)
          obtain ⟨bb, ob, rfl, hbb, _, hcb⟩ := rro_at rb.out (by rw [hnb.out]; omega)
          obtain ⟨ua, hua, hrua⟩ := hca k hlta
          obtain ⟨ub, hub, hrub⟩ := hcb k hltb
          have ea : wr.cell? ⟨ba, oa + k, none⟩ = some ua := (hbel.cell (p := ⟨ba, oa + k, none⟩) hba).trans hua
          have eb : wr.cell? ⟨bb, ob + k, none⟩ = some ub := (hbel.cell (p := ⟨bb, ob + k, none⟩) hbb).trans hub
          have hfk := hfl.out la[k] (List.getElem_mem hlta)
          have hnext : la[k] = lb[k] → ∀ j (h : j < la.length) (h2 : j < lb.length), j < k + 1 → la[j] = lb[j] := fun h0 j h h2 hj => by
            by_cases e : j = k
            · subst e; exact h0
            · exact hok j h h2 (by omega)
          have hne : la[k] ≠ lb[k] → la ≠ lb := fun h0 h1 => h0 (by subst h1; rfl)
          obtain ⟨x, hx2⟩ : ∃ x, la[k] = x := ⟨_, rfl⟩
          obtain ⟨y, hy2⟩ : ∃ y, lb[k] = y := ⟨_, rfl⟩
          rw [hx2] at hrua hfk hnext hne
          rw [hy2] at hrub hnext hne
          obtain ⟨px, cx, rfl⟩ := ri_form hrua.1
          obtain ⟨py, cy, rfl⟩ := ri_form hrub.1
          have rx := Lib.hid (ri_below hrua.1 hbel)
          have ry := Lib.hid (ri_below hrub.1 hbel)
          have hsame := fun W2 (h1 : RI W2 (.slice px x.length cx) x) (h2 : RI W2 (.slice py y.length cy) y) => same_any _ _ x y W2 (by omega) h1 h2
          obtain ⟨D, hD⟩ : ∃ D, sameB x y = D := ⟨_, rfl⟩
          rw [hD] at hsame
          have hDt : D = true → x = y := fun h => by rw [h] at hD; exact of_decide_eq_true hD
          have hDf : D = false → x ≠ y := fun h => by rw [h] at hD; exact of_decide_eq_false hD
          replace hsame := Lib.hid hsame
          replace hnext := Lib.hid hnext
          replace hne := Lib.hid hne
          replace hDt := Lib.hid hDt
          replace hDf := Lib.hid hDf
          replace hok := Lib.hid hok
          replace hbel := Lib.hid hbel
          clear hca hcb hrua hrub hua hub hx2 hy2 hD
          go_upto_region 6 with (fail)
          have H4 := Lib.hid (show _ ∧ _ ∧ _ ∧ _ from ⟨c0, d0, ea, eb⟩)
          go_region_held3 (fun w' => w'.cell? ⟨w.heap.size, 0, none⟩ = some (.slice (some ⟨ba, oa, none⟩) na ca) ∧ w'.cell? ⟨w.heap.size + 1, 0, none⟩ = some (.slice (some ⟨bb, ob, none⟩) na cb) ∧ w'.cell? ⟨ba, oa + k, none⟩ = some (.slice px x.length cx) ∧ w'.cell? ⟨bb, ob + k, none⟩ = some (.slice py y.length cy))
            (first | with_reducible exact ⟨c0, d0, ea, eb⟩ | go_keep)
            (first | (go_at_call 17; refine (hsame.out wr.drew rx.out ry.out).mono ?_; rintro e w2 ⟨rfl, nd, rfl⟩))
          all_goals
            have hbel2 := Lib.hid (below_on hbel.out (drewN_below wr (1 + nd)))
            rcases D with _ | _
            · have hres := Lib.hid (hbad.out (.inl (hne.out (hDf.out rfl))))
              go_wp2_with fail
              go_ret
              exact ⟨ret_bool hres.out.symm, below_on hB.out hbel2.out⟩
            · have hnx := Lib.hid (hnext.out (hDt.out rfl))
              clear c0 d0 ea eb
              go_wp2_with fail
              go_roundg (na - (k + 1))
              case measure => omega
              case rel => exact ⟨k + 1, by omega, by go_num, rfl, hnx.out, hbel2.out⟩
        · obtain rfl : k = na := by omega
          have hlt' : decide ((k : Int) < (k : Int)) = false := by simp
          have hres := Lib.hid (hgood.out (List.ext_getElem (hna.out.trans hnb.out.symm) fun j h h2 => hok j h h2 (by rw [← hna.out]; exact h)) (by trivial))
          replace hok := Lib.hid hok
          replace hbel := Lib.hid (below_on hB.out hbel)
          go_wp2_with fail
          go_ret
          exact ⟨ret_bool hres.out.symm, hbel.out⟩
    · have hres := Lib.hid (hbad.out (.inr hx))
      rcases xa with _ | _ <;> rcases xb with _ | _
      all_goals first | exact absurd rfl hx | skip
      all_goals
        go_wp2_with fail
        go_ret
        exact ⟨ret_bool hres.out.symm, hB.out⟩
  · have n1 : ((na : Int) != (nb : Int)) = true := by simp; omega
    have n1' : (na != nb) = true := by simpa using hl
    have hres := Lib.hid (hbad.out (.inl fun h => hl (by rw [← hna.out, ← hnb.out, h])))
    go_wp2_with fail
    go_ret
    exact ⟨ret_bool hres.out.symm, hB.out⟩
end Go.Proofs.Ytcbfgcmdlfediaa
