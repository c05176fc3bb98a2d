/- Texts that stand together. -/
import Derived.Test.YtbkgjbpnogcjeaaPrP
import Derived.Deep.LoopGhost
import Derived.Deep.DeepCutAuto
/- Layer 3: the document's answer, row by row. -/
namespace Go.Proofs.Ytbkgjbpnogcjeaa
set_option linter.unusedSimpArgs false
set_option linter.unusedVariables false
open Go.RowKit Go.Lib

set_option maxHeartbeats 800000 in
theorem rspan_any (T : List Prp.Row) (hn : T.length ≤ 1000) (b : Nat) (r : Int) (w : World) (h : RowsAt w b T) (n : Nat) (hnT : n = T.length) :
    Calls Try.prog 40 #[.slice (some ⟨b, 0, none⟩) n n, .int .i64 r] w fun e w' => e = .returned (.tuple #[.int .i64 ((Prp.look T r).getD 0), .bool (Prp.look T r).isSome]) ∧ w = w' := by
  have hn1 : n ≤ 1000 := by omega
  replace hnT := Lib.hid hnT
  replace h := Lib.hid h
  clear hn
  obtain ⟨R, hR⟩ : ∃ R, Prp.look T r = R := ⟨_, rfl⟩
  rw [hR]
  replace hR := Lib.hid hR
  go_enter Try.func40, Try.ntmps40
  go_wp2_with fail
  go_loopg [6] n (fun g i wr => w = wr ∧ ∃ k : Nat, k ≤ n ∧ g = n - k ∧ i = .int .i64 k ∧ Hid (Prp.look T r = Prp.look (T.drop k) r))
  case atStart => exact ⟨rfl, 0, Nat.zero_le _, rfl, rfl, Lib.hid rfl⟩
  case round =>
    obtain ⟨rfl, k, hk, rfl, rfl, hl⟩ := hrel
    by_cases hlt : k < n
    · have hlt' : (k : Int) < (n : Int) := by omega
      have hkT : k < T.length := by rw [← hnT.out]; exact hlt
      obtain ⟨A, B, C, hT, h0, h1, h2⟩ := rows_cells h.out k hkT
      have hd : T.drop k = (A, B, C) :: T.drop (k + 1) := by rw [List.drop_eq_getElem_cons hkT, hT]
      have hstep : Prp.look T r = if A ≤ r ∧ r ≤ B then some C else Prp.look (T.drop (k + 1)) r := by rw [hl.out, hd]; rfl
      clear hl hd
      replace hT := Lib.hid hT
      by_cases hA : A ≤ r
      · by_cases hB : r ≤ B
        · rw [if_pos ⟨hA, hB⟩] at hstep
          rw [hR.out] at hstep
          replace hstep := Lib.hid hstep
          go_wp2_with fail
          go_ret2
          exact ⟨by rw [hstep.out]; rfl, rfl⟩
        · rw [if_neg (fun h => hB h.2)] at hstep
          have hB' : decide (r ≤ B) = false := by simp; omega
          replace hstep := Lib.hid hstep
          go_wp2_with fail
          go_roundg (n - (k + 1))
          case measure => omega
          case rel => exact ⟨rfl, k + 1, by omega, rfl, by go_num, hstep⟩
      · rw [if_neg (fun h => hA h.1)] at hstep
        have hA' : decide (A ≤ r) = false := by simp; omega
        replace hstep := Lib.hid hstep
        go_wp2_with fail
        go_roundg (n - (k + 1))
        case measure => omega
        case rel => exact ⟨rfl, k + 1, by omega, rfl, by go_num, hstep⟩
    · have hlt' : decide ((k : Int) < (n : Int)) = false := by simp; omega
      have hl2 := hl.out
      rw [hR.out, List.drop_eq_nil_of_le (by rw [← hnT.out]; omega)] at hl2
      replace hl2 := Lib.hid hl2
      clear hl
      go_wp2_with fail
      go_ret2
      exact ⟨by rw [hl2.out]; rfl, rfl⟩
end Go.Proofs.Ytbkgjbpnogcjeaa

/- Layer 3: the document's table of classes. -/
namespace Go.Proofs.Ytbkgjbpnogcjeaa
set_option linter.unusedSimpArgs false
set_option linter.unusedVariables false
open Go.RowKit Go.Lib

end Go.Proofs.Ytbkgjbpnogcjeaa

/- Layer 3: the document's answers. -/
namespace Go.Proofs.Ytbkgjbpnogcjeaa
set_option linter.unusedSimpArgs false
set_option linter.unusedVariables false
open Go.RowKit Go.Lib


end Go.Proofs.Ytbkgjbpnogcjeaa

