/- The document's Find (layer 4's), of any layer that has it. -/
import Derived.Test.YtfmnecknfmgggaaGreatDoorBasP
import Derived.Test.YtfmnecknfmgggaaGreatDoorPaRP
import Derived.Deep.LoopGhost
import Derived.Deep.DeepCutAuto
import Derived.KernelRfl
namespace Go.Proofs.YtfmnecknfmgggaaGreatDoor
set_option linter.unusedSimpArgs false
set_option linter.unusedVariables false
open Go.RowKit Go.Lib

/-- what the document's Find comes to -/
def FoundR (o : Option (List Int)) (w : World) (e : Ending) (w' : World) : Prop :=
  ∃ v, e = .returned (.tuple #[v, .bool o.isSome]) ∧ RI w' v (o.getD []) ∧ Below w.heap.size w w'

theorem drop_cons {L : List UInt8} {k : Nat} (h : k < L.length) : L.drop k = L[k] :: L.drop (k + 1) := by rw [List.drop_eq_getElem_cons h]

theorem headD_app {l : List Int} {x : Int} (h : 0 < (l ++ [x]).length) : (l ++ [x])[0] = (l ++ [x]).headD 0 := by
  cases l with
  | nil => rfl
  | cons a t => rfl

theorem tail_drop (l : List Int) : l.tail = l.drop 1 := by cases l <;> rfl

/-- the first of a row that was read, and what stands behind it -/
theorem own_first {B : Nat} {v : Value} {l : List Int} {x h : Int} {w : World} (hown : OwnI B v (l ++ [x]) w) (hl : 1 ≤ l.length) (hh : (l ++ [x]).headD 0 = h) :
    ∃ g cap, v = .slice (some ⟨g, 0, none⟩) (l.length + 1) cap ∧ l.length + 1 ≤ cap ∧ 1 < cap ∧ w.cell? ⟨g, 0, none⟩ = some (.int .i64 h) ∧ RI w (.slice (some ⟨g, 1, none⟩) l.length (cap - 1)) (l ++ [x]).tail := by
  obtain ⟨g, cap, rfl, hB, hlt, hcell⟩ := ownI_open hown (by simp)
  have hri := ri_of_own hown
  have hcap : (l ++ [x]).length ≤ cap := by
    rcases hri with ⟨h, _⟩ | ⟨a, c, he, hc, _⟩
    · simp at h
    · simp at he
      have := he.2
      omega
  have hlen : (l ++ [x]).length = l.length + 1 := by simp
  obtain ⟨b, off, he, hdrop⟩ := ri_drop hri 1 (by omega)
  simp at he
  obtain ⟨rfl, rfl⟩ := he
  rw [← tail_drop, hlen] at hdrop
  have h0 := hcell 0 (by simp)
  rw [headD_app (by simp), hh] at h0
  rw [hlen] at hcap ⊢
  exact ⟨g, cap, rfl, hcap, by omega, h0, by simpa using hdrop⟩

set_option maxHeartbeats 1600000 in
theorem rfind_any (S : ByteArray) (r : Int) (hS : S.size ≤ 100000) (hb : Lk.bdd S.data.toList 0 0 = true) (w : World) :
    Calls Tryz.prog 63 #[.string S, .int .i64 r] w (FoundR (Lk.scan S.data.toList [] 0 r) w) := by
  obtain ⟨i0, hi, hz0, hz1, hz2⟩ := info_parts info_i
  obtain ⟨o, ho⟩ : ∃ o, Lk.scan S.data.toList [] 0 r = o := ⟨_, rfl⟩
  rw [ho]
  replace hb := Lib.hid hb
  replace ho := Lib.hid ho
  go_enter Tryz.func63, Tryz.ntmps63
  go_wp2_with fail
  go_loopg [6, 7, 8] S.size (fun g lv v i wr => ∃ (k : Nat) (l : List Int) (x : Int), k ≤ S.size ∧ i = .int .i64 k ∧ v = .int .i64 x ∧ OwnI w.heap.size lv l wr ∧ Below w.heap.size w wr ∧ Lk.scan (S.data.toList.drop k) l x r = o ∧ Lk.bdd (S.data.toList.drop k) x l.length = true ∧ l.length ≤ k ∧ g = S.size - k)
  case atStart => exact ⟨0, [], 0, Nat.zero_le _, rfl, rfl, ownI_nil _ _, Below.refl _ _, ho.out, hb.out, Nat.le_refl _, rfl⟩
  case round =>
    obtain ⟨k, l, x, hk, rfl, rfl, hown, hbel, hsc, hbd, hlk, rfl⟩ := hrel
    by_cases hlt : k < S.size
    · have hlt' : (k : Int) < (S.size : Int) := by omega
      have hdr := drop_cons (L := S.data.toList) (k := k) (by simpa using hlt)
      obtain ⟨c, hc⟩ : ∃ c, S[k] = c := ⟨_, rfl⟩
      rw [show S.data.toList[k]'(by simpa using hlt) = c from hc] at hdr
      rw [hdr] at hsc hbd
      have hv := Lk.bdd_v hbd
      obtain ⟨hv1, hv2⟩ := hv
      have hmx : l.length + [x].length ≤ maxLen ∧ (l.length + [x].length) * 8 ≤ 140737488355328 := by unfold maxLen; simp; omega
      have hown2 := ownI_alloc hown (.cells #[.int .i64 x] 3)
      have hone := ri_src (ri_of_own (ownI_lit w.heap.size wr [x] #[.int .i64 x] wr.heap.size 1 rfl hbel.size rfl rfl (by unfold maxLen; omega)))
      have hbel2 := hbel.alloc hbel.size (.cells #[.int .i64 x] 3)
      replace hown2 := Lib.hid hown2
      replace hbel2 := Lib.hid hbel2
      replace hown := Lib.hid hown
      replace hbel := Lib.hid hbel
      clear hdr
      by_cases h61 : c.toNat = 61 ∨ c.toNat = 44
      · rw [Lk.scan_sep h61] at hsc
        have hbd2 := Lib.hid (Lk.bdd_sep hbd h61)
        replace hsc := Lib.hid hsc
        clear hbd
        rcases h61 with h61 | h61
        · have e1 : ((c.toNat : Int) == 61) = true := by rw [h61]; rfl
          clear h61
          go_wp2_with (at_builtin; refine wpList_append_src rfl _ _ 22 rfl w.heap.size 3 i0 (.int .i64 0) 8 Tryz.underlying22 hi hz0 hz1 hz2 rfl _ _ _ rfl hown2.out _ _ rfl hone (oneCellI [x]) (by simpa using hmx.1) (by simpa using hmx.2) hbel2.out.size ?_; intro v5 w5 hown5 hgrow5)
          have hown6 := ownI_of_row (l := l ++ [x]) hown5 (by simp) (by simp)
          have hbel6 := below_row hbel2.out hgrow5 hbel2.out.size hown2.out (Nat.le_refl _)
          go_roundg (S.size - (k + 1))
          case measure => omega
          case rel => exact ⟨k + 1, l ++ [x], 0, by omega, by go_num, rfl, hown6, hbel6, hsc.out, by simpa using hbd2.out, by simp; omega, rfl⟩
        · have e1 : ((c.toNat : Int) == 61) = false := by rw [h61]; rfl
          have e2 : ((c.toNat : Int) == 44) = true := by rw [h61]; rfl
          clear h61
          go_wp2_with (at_builtin; refine wpList_append_src rfl _ _ 22 rfl w.heap.size 3 i0 (.int .i64 0) 8 Tryz.underlying22 hi hz0 hz1 hz2 rfl _ _ _ rfl hown2.out _ _ rfl hone (oneCellI [x]) (by simpa using hmx.1) (by simpa using hmx.2) hbel2.out.size ?_; intro v5 w5 hown5 hgrow5)
          have hown6 := ownI_of_row (l := l ++ [x]) hown5 (by simp) (by simp)
          have hbel6 := below_row hbel2.out hgrow5 hbel2.out.size hown2.out (Nat.le_refl _)
          go_roundg (S.size - (k + 1))
          case measure => omega
          case rel => exact ⟨k + 1, l ++ [x], 0, by omega, by go_num, rfl, hown6, hbel6, hsc.out, by simpa using hbd2.out, by simp; omega, rfl⟩
      · have e1 : ((c.toNat : Int) == 61) = false := by simp; omega
        have e2 : ((c.toNat : Int) == 44) = false := by simp; omega
        by_cases h32 : c.toNat = 32
        · have e3 : ((c.toNat : Int) == 32) = true := by rw [h32]; rfl
          rw [Lk.scan_sp h32] at hsc
          obtain ⟨hl1, hbd2⟩ := Lk.bdd_sp hbd h32
          replace hbd2 := Lib.hid hbd2
          clear hbd h32 h61
          obtain ⟨h, hh⟩ : ∃ h, (l ++ [x]).headD 0 = h := ⟨_, rfl⟩
          rw [hh] at hsc
          replace hh := Lib.hid hh
          by_cases hr0 : h = r
          · rw [if_pos hr0] at hsc
            have e4 : (h == r) = true := by simp [hr0]
            replace hsc := Lib.hid hsc
            clear hr0
            go_wp2_with (at_builtin; refine wpList_append_src rfl _ _ 22 rfl w.heap.size 3 i0 (.int .i64 0) 8 Tryz.underlying22 hi hz0 hz1 hz2 rfl _ _ _ rfl hown2.out _ _ rfl hone (oneCellI [x]) (by simpa using hmx.1) (by simpa using hmx.2) hbel2.out.size ?_; intro v5 w5 hown5 hgrow5; have hown6 := ownI_of_row (l := l ++ [x]) hown5 (by simp) (by simp); have hbel6 := below_row hbel2.out hgrow5 hbel2.out.size hown2.out (Nat.le_refl _); have hop := own_first hown6 hl1 hh.out; clear hown5 hgrow5; obtain ⟨g, cap, rfl, hcap, hcap1, c0, htl⟩ := hop; replace hbel6 := Lib.hid hbel6; replace htl := Lib.hid htl; clear hown6)
            go_ret2
            exact ⟨_, by rw [← hsc.out]; rfl, by rw [← hsc.out]; exact htl.out, hbel6.out⟩
          · rw [if_neg hr0] at hsc
            have e4 : (h == r) = false := by simp [hr0]
            replace hsc := Lib.hid hsc
            clear hr0
            go_wp2_with (at_builtin; refine wpList_append_src rfl _ _ 22 rfl w.heap.size 3 i0 (.int .i64 0) 8 Tryz.underlying22 hi hz0 hz1 hz2 rfl _ _ _ rfl hown2.out _ _ rfl hone (oneCellI [x]) (by simpa using hmx.1) (by simpa using hmx.2) hbel2.out.size ?_; intro v5 w5 hown5 hgrow5; have hown6 := ownI_of_row (l := l ++ [x]) hown5 (by simp) (by simp); have hbel6 := below_row hbel2.out hgrow5 hbel2.out.size hown2.out (Nat.le_refl _); have hop := own_first hown6 hl1 hh.out; clear hown5 hgrow5; obtain ⟨g, cap, rfl, hcap, hcap1, c0, htl⟩ := hop; replace hbel6 := Lib.hid hbel6; replace htl := Lib.hid htl; clear hown6)
            go_roundg (S.size - (k + 1))
            case measure => omega
            case rel => exact ⟨k + 1, [], 0, by omega, by go_num, rfl, ownI_nil _ _, hbel6.out, hsc.out, hbd2.out, by simp, rfl⟩
        · have e3 : ((c.toNat : Int) == 32) = false := by simp; omega
          rw [Lk.scan_dig h61 h32] at hsc
          have hbd2 := Lk.bdd_dig hbd h61 h32
          have hdb := Lk.digit_bd c
          have hd := digit_any c
          obtain ⟨d, hd'⟩ : ∃ d, Lk.digit c = d := ⟨_, rfl⟩
          rw [hd'] at hsc hbd2 hdb hd
          obtain ⟨hdb1, hdb2⟩ := hdb
          replace hd := Lib.hid hd
          replace hsc := Lib.hid hsc
          replace hbd2 := Lib.hid hbd2
          clear hbd h32 h61 hd'
          go_wp2_with fail
          refine (hd.out _).mono ?_
          rintro e w1 ⟨rfl, rfl⟩
          go_wp2_with fail
          go_roundg (S.size - (k + 1))
          case measure => omega
          case rel => exact ⟨k + 1, l, x * 16 + d, by omega, by go_num, rfl, hown.out, hbel.out, hsc.out, hbd2.out, by omega, rfl⟩
    · obtain rfl : k = S.size := by omega
      have hlt' : decide ((S.size : Int) < (S.size : Int)) = false := by simp
      rw [List.drop_of_length_le (by simp), Lk.scan] at hsc
      subst hsc
      replace hown := Lib.hid hown
      replace hbel := Lib.hid hbel
      clear ho hbd
      go_wp2_with fail
      go_ret2
      exact ⟨_, rfl, ri_nil _, hbel.out⟩

end Go.Proofs.YtfmnecknfmgggaaGreatDoor
