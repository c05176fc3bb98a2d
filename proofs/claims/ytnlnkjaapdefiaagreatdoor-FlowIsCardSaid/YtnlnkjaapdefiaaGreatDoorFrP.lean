/- Texts that stand together. -/
import Derived.Test.YtnlnkjaapdefiaaGreatDoorBasQ
import Derived.Test.YtnlnkjaapdefiaaGreatDoorBasP
import Derived.OwnWalk
import Derived.Test.YtnlnkjaapdefiaaGreatDoorC1
import Derived.Lib.AppendStr
import Derived.Deep.LoopGhost
import Derived.Test.YtnlnkjaapdefiaaGreatDoorC2
import Derived.Test.YtnlnkjaapdefiaaGreatDoorDcP
import Derived.Deep.DeepCutAuto
/- Layer 13: bytes in the middle of bytes, texts as cells, and what All makes of what Take makes. -/
namespace Go.Proofs.YtnlnkjaapdefiaaGreatDoor
set_option linter.unusedSimpArgs false
set_option linter.unusedVariables false
open Go.RowKit Go.Lib
theorem strV_cells (t : List UInt8) : Lib.strCells ⟨t.toArray⟩ = Lib.byteCells t := by simp [Lib.strCells, Lib.byteCells]
theorem bytes_mid {w : World} {b off n cap : Nat} {l : List UInt8} (h : RBytes w (.slice (some ⟨b, off, none⟩) n cap) l) (k m c : Nat) (hk : k + m ≤ l.length) (hc : m ≤ c) : RBytes w (.slice (some ⟨b, off + k, none⟩) m c) ((l.drop k).take m) := by
  have hlen : ((l.drop k).take m).length = m := by rw [List.length_take, List.length_drop]; omega
  refine .inr ⟨_, c, by rw [hlen], by omega, fun h0 => ⟨b, off + k, rfl, ?_, fun i hi => ?_⟩⟩
  · obtain ⟨b', o', he, h1, _⟩ := bytes_at h (by omega)
    cases he
    exact h1
  · obtain ⟨b', o', he, _, h2⟩ := bytes_at h (by omega)
    cases he
    rw [List.getElem_take, List.getElem_drop, Nat.add_assoc]
    exact h2 (k + i) (by omega)
theorem bytes_zero {w : World} {a : Addr} {m c : Nat} {M : List UInt8} (h : M.length = m) (h0 : m = 0) : RBytes w (.slice (some a) m c) M := by
  subst h0
  obtain rfl := List.eq_nil_of_length_eq_zero h
  exact .inr ⟨a, c, rfl, Nat.zero_le _, fun h => by simp at h⟩
theorem took_err {b : List UInt8} {c : Int} (h : Var.takeL b = (0, 0, c)) (hc : c ≠ 0) : Frm.takeF b = ([], 0, c) := by
  unfold Frm.takeF
  rw [h]
  simp [hc]
theorem took_short {b : List UInt8} {m k : Nat} (h : Var.takeL b = ((m : Int), (k : Int), 0)) (hs : (b.length : Int) - k < m) : Frm.takeF b = ([], 0, 1) := by
  unfold Frm.takeF
  rw [h]
  simp only [ne_eq, not_true, if_false]
  rw [if_pos hs]
theorem took_ok {b : List UInt8} {m k : Nat} (h : Var.takeL b = ((m : Int), (k : Int), 0)) (hs : ¬ (b.length : Int) - k < m) : Frm.takeF b = ((b.drop k).take m, (k : Int) + m, 0) := by
  unfold Frm.takeF
  rw [h]
  simp only [ne_eq, not_true, if_false]
  rw [if_neg hs]
  simp
namespace Frm
theorem all_none : allF [] = ([], 0, 0) := by simp [allF, allU]
theorem all_err {b : List UInt8} (h0 : b ≠ []) (he : (takeF b).2.2 ≠ 0) : allF b = ([], 0, (takeF b).2.2) := by
  unfold allF
  cases b with
  | nil => exact absurd rfl h0
  | cons c t => rw [List.length_cons, allU, if_neg h0, if_pos he]
theorem all_ok {b : List UInt8} (he : (takeF b).2.2 = 0) : ∃ n : Nat, (takeF b).2.1 = n ∧ 1 ≤ n ∧ n ≤ b.length ∧ allF b = ((takeF b).1 :: (allF (b.drop n)).1, (n : Int) + (allF (b.drop n)).2.1, (allF (b.drop n)).2.2) := by
  obtain ⟨t, r, rfl, ht, htk⟩ := take_ok he
  refine ⟨(frameOf t).length, by rw [htk], frame_pos t, by simp, ?_⟩
  have h := all_frames [t] (fun x hx => by rw [List.mem_singleton] at hx; subst hx; exact ht) r
  have e : framesOf [t] = frameOf t := by simp [framesOf]
  rw [e] at h
  rw [h, List.drop_left, htk]
  rfl
end Frm
theorem srcT_one (w : World) (v : Value) (T : TypeId) : Src (w.alloc (.cells #[v] T)) (.slice (some ⟨w.heap.size, 0, none⟩) 1 1) [v] := by
  refine .inr ⟨_, 1, rfl, fun j u hu => ?_⟩
  cases j with
  | zero =>
    simp at hu
    subst hu
    exact blk_cell (blk_new w _ _) 0 _ rfl
  | succ j => simp at hu
theorem oneCellS (t : List UInt8) : ∀ u ∈ [strV t], u.oneCell' = true := by
  intro u hu
  rw [List.mem_singleton] at hu
  subst hu
  rfl
/-- what the loop of All holds: as many texts as came so far, and what is behind them -/
def AllAt (b : List UInt8) (k : Nat) (ts : List (List UInt8)) : Prop := Frm.allF b = (ts ++ (Frm.allF (b.drop k)).1, (k : Int) + (Frm.allF (b.drop k)).2.1, (Frm.allF (b.drop k)).2.2)
end Go.Proofs.YtnlnkjaapdefiaaGreatDoor

/- Layer 13: the code's Clone of bytes and framed. -/
namespace Go.Proofs.YtnlnkjaapdefiaaGreatDoor
set_option linter.unusedSimpArgs false
set_option linter.unusedVariables false
open Go.RowKit Go.Lib
theorem flat_take {ts : List (List UInt8)} {k : Nat} (hk : k < ts.length) : (ts.take (k + 1)).flatten = (ts.take k).flatten ++ ts[k] := by
  rw [← List.take_append_getElem hk, List.flatten_append]
  simp
theorem flat_len (ts : List (List UInt8)) (k : Nat) : (ts.take k).flatten.length ≤ ts.flatten.length := by
  conv => rhs; rw [← List.take_append_drop k ts, List.flatten_append, List.length_append]
  omega
set_option maxHeartbeats 3200000 in
set_option maxRecDepth 100000 in
/-- the frame of any number of parts -/
theorem framed13_any (v : Value) (ts : List (List UInt8)) (w : World) (hn : ts.length ≤ 1000) (hl : ts.flatten.length ≤ 100000) (hv : SR w v ts) : Calls Tryz.prog 66 #[v] w fun e w' => ∃ v', e = .returned v' ∧ OwnB w.heap.size v' (Frm.frameOf ts.flatten) w' ∧ Below w.heap.size w w' := by
  obtain ⟨i0, hi, hz0, hz1, hz2⟩ := info_parts info_byte
  obtain ⟨p, cap, rfl⟩ := sr_form hv
  replace hv := Lib.hid hv
  obtain ⟨L, hL⟩ : ∃ L, ts.flatten.length = L := ⟨_, rfl⟩
  have hfl0 := flat_len ts
  rw [hL] at hfl0 hl
  have hput := fun W : World => put_any (L : Int) W
  rw [putI_yes (by omega)] at hput
  have hpl := Var.put_len_le L (by omega)
  have hpp := Var.put_len_pos L
  obtain ⟨F, hF⟩ : ∃ F, Frm.frameOf ts.flatten = F := ⟨_, rfl⟩
  rw [hF]
  unfold Frm.frameOf at hF
  rw [hL] at hF
  obtain ⟨N, hN⟩ : ∃ N, Var.putN L = N := ⟨_, rfl⟩
  rw [hN] at hput hpl hpp hF
  replace hL := Lib.hid hL
  replace hfl0 := Lib.hid hfl0
  replace hF := Lib.hid hF
  replace hN := Lib.hid hN
  replace hput := Lib.hid hput
  have hnz : ((N.length : Int) == 0) = false := beq_eq_false_iff_ne.2 (by omega)
  go_enter Tryz.func66, Tryz.ntmps66
  go_wp2_with fail
  go_loopg [3, 11] ts.length (fun g vs vi wr => ∃ k A : Nat, k ≤ ts.length ∧ vi = .int .i64 k ∧ vs = .int .i64 A ∧ A = (ts.take k).flatten.length ∧ g = ts.length - k ∧ w = wr)
  case atStart => exact ⟨0, 0, Nat.zero_le _, rfl, rfl, rfl, rfl, rfl⟩
  case round =>
    obtain ⟨k, A, hk, rfl, rfl, hA, rfl, rfl⟩ := hrel
    by_cases hlt : k < ts.length
    · have hlt' : (k : Int) < (ts.length : Int) := by omega
      obtain ⟨b1, o1, rfl, _, hc1⟩ := sr_at hv.out (by omega)
      have k1 : w.cell? ⟨b1, o1 + k, none⟩ = some (strV ts[k]) := hc1 k hlt
      have hfl := hfl0.out (k + 1)
      have hft := flat_take hlt
      have hln : ((ts.take (k + 1)).flatten).length = A + ts[k].length := by rw [hft, List.length_append, ← hA]
      obtain ⟨T, hT⟩ : ∃ T, ts[k] = T := ⟨_, rfl⟩
      rw [hT] at k1 hln
      have hTs : (⟨T.toArray⟩ : ByteArray).size = T.length := by simp [ByteArray.size]
      obtain ⟨S, hS⟩ : ∃ S : ByteArray, (⟨T.toArray⟩ : ByteArray) = S := ⟨_, rfl⟩
      unfold strV at k1
      rw [hS] at hTs k1
      rw [hln] at hfl
      have hb1 : (A : Int) + (S.size : Int) ≤ 100000 := by rw [hTs]; omega
      have hnew : A + S.size = ((ts.take (k + 1)).flatten).length := by rw [hln, hTs]
      replace hnew := Lib.hid hnew
      clear hft hT hS hA hc1 hTs hln hfl
      go_wp2_with fail
      go_roundg (ts.length - (k + 1))
      case measure => omega
      case rel => exact ⟨k + 1, A + S.size, by omega, by go_num, by go_num, hnew.out, rfl, rfl⟩
    · obtain rfl : k = ts.length := by omega
      have hlt' : decide ((ts.length : Int) < (ts.length : Int)) = false := by simp
      rw [List.take_length, hL.out] at hA
      subst hA
      go_wp2_with fail
      refine (hput.out _).mono ?_
      rintro e w1 ⟨v1, rfl, o1, q1⟩
      replace o1 := Lib.hid o1
      replace q1 := Lib.hid q1
      obtain ⟨p1, c1, rfl⟩ := bytes_form (bytes_of_own o1.out)
      go_wp2_with fail
      go_loopg [6, 27] ts.length (fun g vb vi wr => ∃ k : Nat, k ≤ ts.length ∧ vi = .int .i64 k ∧ OwnB w.heap.size vb (N ++ (ts.take k).flatten) wr ∧ g = ts.length - k ∧ Below w.heap.size w wr)
      case atStart => exact ⟨0, Nat.zero_le _, rfl, by simpa using o1.out, rfl, q1.out⟩
      case round =>
        obtain ⟨k, hk, rfl, hown, rfl, hbel⟩ := hrel
        by_cases hlt : k < ts.length
        · have hlt' : (k : Int) < (ts.length : Int) := by omega
          obtain ⟨b1, o1, rfl, hbb, hc1⟩ := sr_at hv.out (by omega)
          have k1 : wr.cell? ⟨b1, o1 + k, none⟩ = some (strV ts[k]) := by rw [hbel.cell hbb]; exact hc1 k hlt
          have hfl := hfl0.out (k + 1)
          have hft := flat_take hlt
          have hln : ((ts.take (k + 1)).flatten).length = (ts.take k).flatten.length + ts[k].length := by rw [hft, List.length_append]
          obtain ⟨T, hT⟩ : ∃ T, ts[k] = T := ⟨_, rfl⟩
          rw [hT] at k1 hln hft
          have hTs : (⟨T.toArray⟩ : ByteArray).size = T.length := by simp [ByteArray.size]
          have hcells := strV_cells T
          obtain ⟨S, hS⟩ : ∃ S : ByteArray, (⟨T.toArray⟩ : ByteArray) = S := ⟨_, rfl⟩
          unfold strV at k1
          rw [hS] at hTs k1 hcells
          obtain ⟨A, hA⟩ : ∃ A, (ts.take k).flatten = A := ⟨_, rfl⟩
          rw [hA] at hln hft hown
          rw [hln] at hfl
          have hz1' : (N ++ A).length + S.size ≤ maxLen := by rw [hTs, List.length_append]; unfold maxLen; omega
          have hz2' : (N ++ A).length + S.size ≤ 140737488355328 := by rw [hTs, List.length_append]; omega
          replace hz1' := Lib.hid hz1'
          replace hz2' := Lib.hid hz2'
          replace hft := Lib.hid hft
          replace hTs := Lib.hid hTs
          replace hcells := Lib.hid hcells
          replace hown := Lib.hid hown
          replace hbel := Lib.hid hbel
          clear hT hS hA hc1 hfl hln
          go_wp2_with (at_builtin; refine wpList_append_own_string _ rfl _ _ 22 9 rfl w.heap.size 5 i0 Tryz.underlying22 Tryz.underlying9 hi hz0 hz1 hz2 _ _ _ rfl hown.out S rfl hz1'.out hz2'.out hbel.out.size ?_; intro v5 w5 hown5 hgrow5 _; have b5 := Lib.hid (below_row hbel.out hgrow5 hbel.out.size hown.out (Nat.le_refl _)); have o5 := Lib.hid (ownB_of_row (l := N ++ (A ++ T)) hown5 (by simp only [List.length_append, hTs.out]; omega) (by rw [hcells.out]; simp [Lib.byteCells])); clear hown5 hgrow5)
          go_roundg (ts.length - (k + 1))
          case measure => omega
          case rel => exact ⟨k + 1, by omega, by go_num, by rw [hft.out]; exact o5.out, rfl, b5.out⟩
        · obtain rfl : k = ts.length := by omega
          have hlt' : decide ((ts.length : Int) < (ts.length : Int)) = false := by simp
          rw [List.take_length] at hown
          rw [hF.out] at hown
          replace hown := Lib.hid hown
          replace hbel := Lib.hid hbel
          go_wp2_with fail
          go_ret
          exact ⟨_, rfl, hown.out, hbel.out⟩
end Go.Proofs.YtnlnkjaapdefiaaGreatDoor

/- Layer 13: the code's Put, Refusal, span, Take. -/
namespace Go.Proofs.YtnlnkjaapdefiaaGreatDoor
set_option linter.unusedSimpArgs false
set_option linter.unusedVariables false
open Go.RowKit Go.Lib
theorem sr_one (w : World) (t : List UInt8) : SR (w.alloc (.cells #[strV t] 9)) (.slice (some ⟨w.heap.size, 0, none⟩) 1 1) [t] := by
  refine .inr ⟨_, 1, rfl, Nat.le_refl _, fun _ => ⟨_, 0, rfl, by simp, fun i hi => ?_⟩⟩
  obtain rfl : i = 0 := by simpa using hi
  exact blk_cell (blk_new w _ _) 0 _ rfl
set_option maxHeartbeats 1600000 in
set_option maxRecDepth 100000 in
theorem put13_any (v : Value) (c : List Int) (w : World) (hl : c.length ≤ 1000) (hv : RI w v c) : Calls Tryz.prog 36 #[v] w (ToldB (Frm.putF c) w) := by
  have htext := Lib.hid (Tx.text_any v c w (by omega) hv)
  obtain ⟨p, cap, rfl⟩ := ri_form hv
  have hlen := Dec.textL_len c
  by_cases h0 : c.length = 0
  · have hp : Frm.putF c = [] := by unfold Frm.putF; rw [if_pos (.inl (List.eq_nil_of_length_eq_zero h0))]
    rw [hp]
    have h1 : ((c.length : Int) == 0) = true := beq_iff_eq.2 (by omega)
    replace h0 := Lib.hid h0
    go_enter Tryz.func36, Tryz.ntmps36
    go_wp2_with fail
    go_ret
    exact ⟨_, rfl, .inl ⟨rfl, rfl⟩, Below.refl _ _⟩
  · have hne : c ≠ [] := fun e => h0 (by rw [e]; rfl)
    obtain ⟨hp, hbig⟩ := Frm.putF_some hne (by omega)
    rw [hp]
    have h1 : ((c.length : Int) == 0) = false := beq_eq_false_iff_ne.2 (by omega)
    obtain ⟨T, hT⟩ : ∃ T, Dec.textL c = T := ⟨_, rfl⟩
    rw [hT] at htext hlen ⊢
    replace htext := Lib.hid htext
    clear hT h0 hp hne hbig hv
    go_enter Tryz.func36, Tryz.ntmps36
    go_wp2_with fail
    refine htext.out.out.mono ?_
    rintro e w1 ⟨rfl, q1⟩
    have hs := Lib.hid (sr_one w1 T)
    have b1 := Lib.hid (q1.alloc q1.size (.cells #[strV T] 9))
    clear q1
    unfold strV at hs b1
    go_wp2_with fail
    refine (framed13_any _ [T] _ (by simp) (by simp; omega) hs.out).mono ?_
    rintro e w2 ⟨v2, rfl, o2, q2⟩
    have e2 : [T].flatten = T := by simp
    rw [e2] at o2
    replace o2 := Lib.hid o2
    replace q2 := Lib.hid q2
    clear e2
    go_wp2_with fail
    go_ret
    exact ⟨_, rfl, bytes_of_own o2.out, b1.out.trans (q2.out.mono b1.out.size)⟩
/-- from where and up to where the text stands -/
def SpanR (b : List UInt8) (w : World) (e : Ending) (w' : World) : Prop := ∃ (f m : Nat) (c : Int), e = .returned (.tuple #[.int .i64 f, .int .i64 ((f : Int) + m), .int .i64 c]) ∧ w = w' ∧ f + m ≤ b.length ∧ Frm.takeF b = ((b.drop f).take m, (f : Int) + m, c)
set_option maxHeartbeats 1600000 in
set_option maxRecDepth 100000 in
theorem span13_any (v : Value) (b : List UInt8) (w : World) (hl : b.length ≤ 1000000) (hv : RBytes w v b) : Calls Tryz.prog 42 #[v] w (SpanR b w) := by
  have htk := take_any v b w hv
  obtain ⟨p, cap, rfl⟩ := bytes_form hv
  rcases Frm.takeL_cases b with ⟨c, hc, h1, h2⟩ | ⟨m, r, hb, hm, hc⟩
  · have hq := took_err hc (by omega)
    rw [hc] at htk
    replace htk := Lib.hid htk
    replace hq := Lib.hid hq
    have hn : (c != 0) = true := by simp; omega
    clear hc
    go_enter Tryz.func42, Tryz.ntmps42
    go_wp2_with fail
    refine htk.out.mono ?_
    rintro e w1 ⟨rfl, rfl⟩
    go_wp2_with fail
    go_ret3
    exact ⟨0, 0, c, rfl, rfl, by omega, by rw [hq.out]; simp⟩
  · obtain ⟨K, hK⟩ : ∃ K, (Var.putN m).length = K := ⟨_, rfl⟩
    have hKN : K ≤ b.length := by rw [hb, List.length_append]; omega
    have hK4 : K ≤ 4 := by rw [← hK]; exact Var.put_len_le m hm
    rw [hK] at hc
    have hm2 : m ≤ 268435455 := hm
    by_cases hs : (b.length : Int) - K < m
    · have hq := took_short hc hs
      rw [hc] at htk
      replace htk := Lib.hid htk
      replace hq := Lib.hid hq
      clear hc hb hK hv
      go_enter Tryz.func42, Tryz.ntmps42
      go_wp2_with fail
      refine htk.out.mono ?_
      rintro e w1 ⟨rfl, rfl⟩
      go_wp2_with fail
      go_ret3
      exact ⟨0, 0, 1, rfl, rfl, by omega, by rw [hq.out]; simp⟩
    · have hq := took_ok hc hs
      rw [hc] at htk
      replace htk := Lib.hid htk
      replace hq := Lib.hid hq
      clear hc hb hK hv
      go_enter Tryz.func42, Tryz.ntmps42
      go_wp2_with fail
      refine htk.out.mono ?_
      rintro e w1 ⟨rfl, rfl⟩
      go_wp2_with fail
      go_ret3
      exact ⟨K, m, 0, rfl, rfl, by omega, hq.out⟩
end Go.Proofs.YtnlnkjaapdefiaaGreatDoor

/- Layer 13: the code's Take and All. -/
namespace Go.Proofs.YtnlnkjaapdefiaaGreatDoor
set_option linter.unusedSimpArgs false
set_option linter.unusedVariables false
open Go.RowKit Go.Lib
theorem bytes_add {w : World} {a : Addr} {n cap : Nat} {b : List UInt8} (hn : n = b.length) (h : RBytes w (.slice (some a) n cap) b) (f m c : Nat) (hm : f + m ≤ n) (hc : m ≤ c) : RBytes w (.slice (some (a.add f)) m c) ((b.drop f).take m) := by
  subst hn
  by_cases h0 : m = 0
  · exact bytes_zero (by rw [List.length_take]; omega) h0
  · obtain ⟨b0, off, he, _, _⟩ := bytes_at h (by omega)
    cases he
    rw [Addr.add_lit]
    exact bytes_mid h f m c hm hc
theorem bytes_rest {w : World} {a : Addr} {n cap k : Nat} {b : List UInt8} (hn : n = (b.drop k).length) (h : RBytes w (.slice (some a) n cap) (b.drop k)) (f : Nat) (hm : f ≤ n) (hc : n ≤ cap) : RBytes w (.slice (some (a.add f)) (n - f) (cap - f)) (b.drop (k + f)) := by
  have := bytes_add hn h f (n - f) (cap - f) (by omega) (by omega)
  rwa [List.take_of_length_le (by rw [List.length_drop, ← hn]; exact Nat.le_refl _), List.drop_drop] at this
set_option maxHeartbeats 3200000 in
set_option maxRecDepth 100000 in
theorem all13_any (v : Value) (b : List UInt8) (w : World) (hl : b.length ≤ 1000000) (hv : RBytes w v b) : Calls Tryz.prog 20 #[v] w (TookAll (Frm.allF b) w) := by
  obtain ⟨i0, hi, hz0, hz1, hz2⟩ := info_parts info_s
  have hv0 := hv
  obtain ⟨p, cap, rfl⟩ := bytes_form hv
  replace hv := Lib.hid hv
  obtain ⟨A, hA⟩ : ∃ A, Frm.allF b = A := ⟨_, rfl⟩
  rw [hA]
  replace hA := Lib.hid hA
  obtain ⟨L, hL⟩ : ∃ L, b.length = L := ⟨_, rfl⟩
  rw [hL] at hl ⊢
  replace hL := Lib.hid hL
  go_enter Tryz.func20, Tryz.ntmps20
  go_wp2_with fail
  go_loopg [5, 6] L (fun g vo vr wr => ∃ (k n : Nat) (p : Option Addr) (cap : Nat) (ts : List (List UInt8)), n = g ∧ k + n = L ∧ vr = .slice p n cap ∧ RBytes w vr (b.drop k) ∧ OwnS w.heap.size vo ts wr ∧ AllAt b k ts ∧ ts.length ≤ k ∧ Below w.heap.size w wr)
  case atStart => exact ⟨0, _, _, _, [], rfl, by omega, rfl, by simpa [hL.out] using hv.out, ownS_nil _ _, by unfold AllAt; simp, Nat.le_refl _, Below.refl _ _⟩
  case round =>
    obtain ⟨k, n, p, cap, ts, rfl, hk, rfl, hr, hown, hat, hfew, hbel⟩ := hrel
    have hdl : n = (b.drop k).length := by rw [List.length_drop, hL.out]; omega
    by_cases hlt : 0 < n
    · have hlt' : (n : Int) > 0 := by omega
      have hcap := bytes_cap hr
      have hrw := bytes_below hr hbel
      have hsp := span13_any _ (b.drop k) wr (by omega) hrw
      obtain ⟨a, rfl⟩ : ∃ a, p = some a := by
        obtain ⟨b0, off, he, _⟩ := bytes_at hr (by omega)
        exact ⟨_, he⟩
      have hne : b.drop k ≠ [] := by
        intro e
        rw [e, List.length_nil] at hdl
        omega
      have herr := @Frm.all_err (b.drop k) hne
      have hok := @Frm.all_ok (b.drop k)
      unfold AllAt at hat
      replace hsp := Lib.hid hsp
      replace hown := Lib.hid hown
      replace hbel := Lib.hid hbel
      replace hr := Lib.hid hr
      replace hrw := Lib.hid hrw
      replace hat := Lib.hid hat
      replace herr := Lib.hid herr
      replace hok := Lib.hid hok
      replace hdl := Lib.hid hdl
      clear hne
      go_wp2_with fail
      refine hsp.out.mono ?_
      rintro e w1 ⟨f, m, c, rfl, rfl, hfm, hq⟩
      rw [← hdl.out] at hfm
      have herr2 := herr.out
      have hok2 := hok.out
      rw [hq] at herr2 hok2
      dsimp only at herr2 hok2
      have hat1 := hat.out
      by_cases hc : c = 0
      · obtain ⟨n', hn', h1, h2, h3⟩ := hok2 hc
        have hcn : (c != 0) = false := by simp; exact hc
        obtain rfl : n' = f + m := by omega
        have hadd := fun c' hc' => Lib.hid (bytes_add hdl.out hrw.out f m c' hfm hc')
        obtain ⟨M, hM⟩ : ∃ M, ((b.drop k).drop f).take m = M := ⟨_, rfl⟩
        have hMl := Lib.hid (show M.length = m by rw [← hM, List.length_take, List.length_drop, ← hdl.out]; omega)
        rw [hM] at h3 hadd
        rw [h3, List.drop_drop] at hat1
        have hat2 : AllAt b (k + (f + m)) (ts ++ [M]) := by
          unfold AllAt
          rw [hat1]
          simp only [List.append_assoc, List.singleton_append]
          congr 1
          congr 1
          omega
        replace hat2 := Lib.hid hat2
        have hlen1 := Lib.hid (show ts.length + 1 ≤ maxLen by unfold maxLen; omega)
        have hlen2 := Lib.hid (show (ts.length + 1) * 16 ≤ 140737488355328 by omega)
        have o1 := Lib.hid (ownS_alloc hown.out (.cells #[strV M] 9))
        have b1 := Lib.hid (hbel.out.alloc hbel.out.size (.cells #[strV M] 9))
        have s1 := Lib.hid (srcT_one wr (strV M) 9)
        have hd2 := Lib.hid (show n - (f + m) = (b.drop (k + (f + m))).length by rw [List.length_drop, hL.out]; omega)
        unfold strV at o1 b1 s1
        clear hq hM hat1 h3 herr2 hok2 hn' h2
        by_cases hcf : cap = f
        · obtain rfl : m = 0 := by omega
          subst hcf
          obtain rfl : cap = n := by omega
          have hrest := fun (x : World) => Lib.hid (show RBytes x (.slice (some a) 0 0) (b.drop (k + (cap + 0))) from bytes_zero (by rw [← hd2.out]; omega) rfl)
          have hcv := run_toStr (.slice (some a) 0 0) M wr (bytes_zero hMl.out rfl)
          go_wp2_with (at_builtin; refine wpList_append_src rfl _ _ 32 rfl w.heap.size 9 i0 (.string ⟨#[]⟩) 16 Tryz.underlying32 hi hz0 hz1 hz2 rfl _ _ _ rfl o1.out _ _ rfl s1.out (oneCellS M) (by rw [List.length_singleton]; exact hlen1.out) (by rw [List.length_singleton]; exact hlen2.out) b1.out.size ?_; intro v5 w5 hown5 hgrow5; have o5 := Lib.hid (ownS_of_row (l := ts ++ [M]) hown5 (by simp) (by simp)); have b5 := Lib.hid (below_row b1.out hgrow5 b1.out.size o1.out (Nat.le_refl _)); clear hown5 hgrow5)
          go_roundg (cap - (cap + 0))
          case measure => omega
          case rel => exact ⟨k + (cap + 0), cap - (cap + 0), some a, 0, ts ++ [M], rfl, by omega, by simp, (by simpa using (hrest _).out), o5.out, hat2.out, by simp; omega, b5.out⟩
        · have hcv := run_toStr _ M wr (hadd (cap - f) (by omega)).out
          by_cases hcm : cap = f + m
          · obtain rfl : n = cap := by omega
            have hrest := fun (x : World) => Lib.hid (show RBytes x (.slice (some a) 0 0) (b.drop (k + (f + m))) from bytes_zero (by rw [← hd2.out]; omega) rfl)
            have hcm2 := hcm.symm
            have hmn : m = n - f := by omega
            have hcv2 := run_toStr (.slice (some (a.add f)) (n - f) (n - f)) M wr (hmn ▸ (hadd m (Nat.le_refl _)).out)
            replace hmn := Lib.hid hmn
            clear hcm
            go_wp2_with (at_builtin; refine wpList_append_src rfl _ _ 32 rfl w.heap.size 9 i0 (.string ⟨#[]⟩) 16 Tryz.underlying32 hi hz0 hz1 hz2 rfl _ _ _ rfl o1.out _ _ rfl s1.out (oneCellS M) (by rw [List.length_singleton]; exact hlen1.out) (by rw [List.length_singleton]; exact hlen2.out) b1.out.size ?_; intro v5 w5 hown5 hgrow5; have o5 := Lib.hid (ownS_of_row (l := ts ++ [M]) hown5 (by simp) (by simp)); have b5 := Lib.hid (below_row b1.out hgrow5 b1.out.size o1.out (Nat.le_refl _)); clear hown5 hgrow5)
            go_roundg (n - (f + m))
            case measure => omega
            case rel => exact ⟨k + (f + m), n - (f + m), some a, 0, ts ++ [M], rfl, by omega, by simp [hcm2], (by simpa [hcm2] using (hrest _).out), o5.out, hat2.out, by simp; omega, b5.out⟩
          · have hrest := Lib.hid (bytes_rest hdl.out hr.out (f + m) (by omega) hcap)
            have hba := Lib.hid hcm
            go_wp2_with (at_builtin; refine wpList_append_src rfl _ _ 32 rfl w.heap.size 9 i0 (.string ⟨#[]⟩) 16 Tryz.underlying32 hi hz0 hz1 hz2 rfl _ _ _ rfl o1.out _ _ rfl s1.out (oneCellS M) (by rw [List.length_singleton]; exact hlen1.out) (by rw [List.length_singleton]; exact hlen2.out) b1.out.size ?_; intro v5 w5 hown5 hgrow5; have o5 := Lib.hid (ownS_of_row (l := ts ++ [M]) hown5 (by simp) (by simp)); have b5 := Lib.hid (below_row b1.out hgrow5 b1.out.size o1.out (Nat.le_refl _)); clear hown5 hgrow5)
            go_roundg (n - (f + m))
            case measure => omega
            case rel => exact ⟨k + (f + m), n - (f + m), _, _, ts ++ [M], rfl, by omega, rfl, hrest.out, o5.out, hat2.out, by simp; omega, b5.out⟩
      · rw [herr2 hc] at hat1
        have hcn : (c != 0) = true := by simp; exact hc
        have hres : A = (ts, (k : Int), c) := by rw [← hA.out, hat1]; simp
        have hkk : (L : Int) - (n : Int) = k := by omega
        replace hres := Lib.hid hres
        clear hq hat1 herr2 hok2
        go_wp2_with fail
        go_ret3
        have hr := hres.out
        subst hr
        exact ⟨_, rfl, sr_of_own hown.out, hbel.out⟩
    · obtain rfl : n = 0 := by omega
      obtain rfl : k = L := by omega
      have hlt' : ¬ ((0 : Int) > 0) := by omega
      unfold AllAt at hat
      rw [← hL.out, List.drop_length, Frm.all_none, hL.out] at hat
      have hres : A = (ts, (k : Int), 0) := by rw [← hA.out, hat]; simp
      replace hown := Lib.hid hown
      replace hbel := Lib.hid hbel
      replace hres := Lib.hid hres
      clear hat hdl hr
      go_wp2_with fail
      go_ret3
      have hr := hres.out
      subst hr
      exact ⟨_, rfl, sr_of_own hown.out, hbel.out⟩
end Go.Proofs.YtnlnkjaapdefiaaGreatDoor

/- Layer 13: what the code's functions tell. -/
namespace Go.Proofs.YtnlnkjaapdefiaaGreatDoor
set_option linter.unusedSimpArgs false
set_option linter.unusedVariables false
theorem allC13 : AllC13 := all13_any
end Go.Proofs.YtnlnkjaapdefiaaGreatDoor

