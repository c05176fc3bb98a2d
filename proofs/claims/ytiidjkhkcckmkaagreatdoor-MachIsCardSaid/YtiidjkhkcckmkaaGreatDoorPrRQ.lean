/- Texts that stand together. -/
import Derived.Test.YtiidjkhkcckmkaaGreatDoorPrP
import Derived.Deep.LoopGhost
import Derived.Deep.DeepCutAuto
import Derived.Test.YtiidjkhkcckmkaaGreatDoorPrRP
import Derived.Test.YtiidjkhkcckmkaaGreatDoorMatP
import Derived.Test.YtiidjkhkcckmkaaGreatDoorDeRP
/- Layer 3: the document's table of kinds. -/
namespace Go.Proofs.YtiidjkhkcckmkaaGreatDoor
set_option linter.unusedSimpArgs false
set_option linter.unusedVariables false
open Go.RowKit Go.Lib
set_option maxRecDepth 100000 in
set_option maxHeartbeats 1600000 in
theorem rkinds_any (w : World) :
    Calls Tryz.prog 147 #[] w fun e w' => e = .returned (.slice (some ⟨w.heap.size, 0, none⟩) 53 53) ∧ w' = w.alloc (.cells (flat Prp.kinds).toArray 196) := by
  go_enter Tryz.func147, Tryz.ntmps147
  go_upto_region 1 with (fail)
  refine wp_region_lit ?_
  refine wpList_runOps 54 (a' := { tmps := #[.slice none 0 0, .agg #[.int .i64 0, .int .i64 9, .int .i64 3], .agg #[.int .i64 10, .int .i64 10, .int .i64 2], .agg #[.int .i64 11, .int .i64 12, .int .i64 3], .agg #[.int .i64 13, .int .i64 13, .int .i64 1], .agg #[.int .i64 14, .int .i64 31, .int .i64 3], .agg #[.int .i64 127, .int .i64 159, .int .i64 3], .agg #[.int .i64 169, .int .i64 169, .int .i64 14], .agg #[.int .i64 173, .int .i64 173, .int .i64 3], .agg #[.int .i64 174, .int .i64 174, .int .i64 14], .agg #[.int .i64 768, .int .i64 879, .int .i64 4], .agg #[.int .i64 1536, .int .i64 1541, .int .i64 7], .agg #[.int .i64 1564, .int .i64 1564, .int .i64 3], .agg #[.int .i64 1611, .int .i64 1631, .int .i64 4], .agg #[.int .i64 1757, .int .i64 1757, .int .i64 7], .agg #[.int .i64 2307, .int .i64 2307, .int .i64 8], .agg #[.int .i64 2363, .int .i64 2363, .int .i64 8], .agg #[.int .i64 2364, .int .i64 2364, .int .i64 4], .agg #[.int .i64 2366, .int .i64 2368, .int .i64 8], .agg #[.int .i64 2377, .int .i64 2380, .int .i64 8], .agg #[.int .i64 2381, .int .i64 2381, .int .i64 4], .agg #[.int .i64 4352, .int .i64 4447, .int .i64 9], .agg #[.int .i64 4448, .int .i64 4519, .int .i64 10], .agg #[.int .i64 4520, .int .i64 4607, .int .i64 11], .agg #[.int .i64 8203, .int .i64 8203, .int .i64 3], .agg #[.int .i64 8204, .int .i64 8204, .int .i64 4], .agg #[.int .i64 8205, .int .i64 8205, .int .i64 5], .agg #[.int .i64 8206, .int .i64 8207, .int .i64 3], .agg #[.int .i64 8232, .int .i64 8238, .int .i64 3], .agg #[.int .i64 8252, .int .i64 8252, .int .i64 14], .agg #[.int .i64 8265, .int .i64 8265, .int .i64 14], .agg #[.int .i64 8288, .int .i64 8303, .int .i64 3], .agg #[.int .i64 8400, .int .i64 8432, .int .i64 4], .agg #[.int .i64 8482, .int .i64 8482, .int .i64 14], .agg #[.int .i64 8505, .int .i64 8505, .int .i64 14], .agg #[.int .i64 8596, .int .i64 8601, .int .i64 14], .agg #[.int .i64 8986, .int .i64 8987, .int .i64 14], .agg #[.int .i64 9728, .int .i64 9732, .int .i64 14], .agg #[.int .i64 9745, .int .i64 9745, .int .i64 14], .agg #[.int .i64 9748, .int .i64 9749, .int .i64 14], .agg #[.int .i64 9786, .int .i64 9786, .int .i64 14], .agg #[.int .i64 9829, .int .i64 9829, .int .i64 14], .agg #[.int .i64 9889, .int .i64 9889, .int .i64 14], .agg #[.int .i64 9989, .int .i64 9989, .int .i64 14], .agg #[.int .i64 10084, .int .i64 10084, .int .i64 14], .agg #[.int .i64 12441, .int .i64 12442, .int .i64 4], .agg #[.int .i64 65024, .int .i64 65039, .int .i64 4], .agg #[.int .i64 65279, .int .i64 65279, .int .i64 3], .agg #[.int .i64 127462, .int .i64 127487, .int .i64 6], .agg #[.int .i64 127744, .int .i64 127994, .int .i64 14], .agg #[.int .i64 127995, .int .i64 127999, .int .i64 4], .agg #[.int .i64 128000, .int .i64 128591, .int .i64 14], .agg #[.int .i64 128640, .int .i64 128767, .int .i64 14], .agg #[.int .i64 129280, .int .i64 129535, .int .i64 14], .slice (some ⟨w.heap.size, 0, none⟩) 53 53], defers := [] }) (w' := w.alloc (.cells (flat Prp.kinds).toArray 196)) (by kernel_rfl) ?_
  simp only [List.drop_succ_cons, List.drop_zero]
  go_wp2_with fail
  go_ret
  exact ⟨rfl, rfl⟩
end Go.Proofs.YtiidjkhkcckmkaaGreatDoor

/- Layer 3: the document's Gcb. -/
namespace Go.Proofs.YtiidjkhkcckmkaaGreatDoor
set_option linter.unusedSimpArgs false
set_option linter.unusedVariables false
open Go.RowKit Go.Lib
set_option maxHeartbeats 800000 in
theorem rgcb_any (r : Int) (w : World) :
    Calls Tryz.prog 111 #[.int .i64 r] w fun e w' => e = .returned (.int .i64 (Prp.gcbI r)) ∧ Below w.heap.size w w' := by
  unfold Prp.gcbI
  by_cases h : 0xAC00 ≤ r ∧ r ≤ 0xD7A3
  · simp only [if_pos h]
    obtain ⟨h1, h2⟩ := h
    by_cases h3 : (r - 0xAC00) % 28 = 0
    · simp only [if_pos h3]
      go_enter Tryz.func111, Tryz.ntmps111
      go_wp2_with fail
      go_ret
      exact ⟨rfl, Below.refl _ _⟩
    · simp only [if_neg h3]
      have h3' : ((r - 0xAC00) % 28 == 0) = false := by simpa using h3
      go_enter Tryz.func111, Tryz.ntmps111
      go_wp2_with fail
      go_ret
      exact ⟨rfl, Below.refl _ _⟩
  · simp only [if_neg h]
    by_cases h1 : 0xAC00 ≤ r
    · have h2 : decide (r ≤ 0xD7A3) = false := by simp; omega
      clear h
      unfold Prp.kndI
      go_enter Tryz.func111, Tryz.ntmps111
      go_wp2_with fail
      refine (rkinds_any _).mono ?_
      rintro e w1 ⟨rfl, hw⟩
      replace hw := Lib.hid hw
      go_wp2_with fail
      refine (rspan_any Prp.kinds (by decide) w.heap.size r w1 (by rw [hw.out]; exact rows_new w _ _ Prp.kinds rfl) 53 rfl).mono ?_
      rintro e w2 ⟨rfl, rfl⟩
      go_wp2_with fail
      go_ret
      exact ⟨rfl, by rw [hw.out]; exact below_new _ _⟩
    · have h1' : decide (0xAC00 ≤ r) = false := by simp; omega
      clear h
      unfold Prp.kndI
      go_enter Tryz.func111, Tryz.ntmps111
      go_wp2_with fail
      refine (rkinds_any _).mono ?_
      rintro e w1 ⟨rfl, hw⟩
      replace hw := Lib.hid hw
      go_wp2_with fail
      refine (rspan_any Prp.kinds (by decide) w.heap.size r w1 (by rw [hw.out]; exact rows_new w _ _ Prp.kinds rfl) 53 rfl).mono ?_
      rintro e w2 ⟨rfl, rfl⟩
      go_wp2_with fail
      go_ret
      exact ⟨rfl, by rw [hw.out]; exact below_new _ _⟩
end Go.Proofs.YtiidjkhkcckmkaaGreatDoor

/- Layer 3: the document's table of dropped. -/
namespace Go.Proofs.YtiidjkhkcckmkaaGreatDoor
set_option linter.unusedSimpArgs false
set_option linter.unusedVariables false
open Go.RowKit Go.Lib
set_option maxRecDepth 100000 in
set_option maxHeartbeats 1600000 in
theorem rdropped_any (w : World) :
    Calls Tryz.prog 146 #[] w fun e w' => e = .returned (.slice (some ⟨w.heap.size, 0, none⟩) 15 15) ∧ w' = w.alloc (.cells (flat Prp.dropped).toArray 196) := by
  go_enter Tryz.func146, Tryz.ntmps146
  go_upto_region 1 with (fail)
  refine wp_region_lit ?_
  refine wpList_runOps 16 (a' := { tmps := #[.slice none 0 0, .agg #[.int .i64 173, .int .i64 173, .int .i64 0], .agg #[.int .i64 847, .int .i64 847, .int .i64 0], .agg #[.int .i64 1564, .int .i64 1564, .int .i64 0], .agg #[.int .i64 4447, .int .i64 4448, .int .i64 0], .agg #[.int .i64 6068, .int .i64 6069, .int .i64 0], .agg #[.int .i64 6155, .int .i64 6159, .int .i64 0], .agg #[.int .i64 8203, .int .i64 8207, .int .i64 0], .agg #[.int .i64 8234, .int .i64 8238, .int .i64 0], .agg #[.int .i64 8288, .int .i64 8303, .int .i64 0], .agg #[.int .i64 12644, .int .i64 12644, .int .i64 0], .agg #[.int .i64 65024, .int .i64 65039, .int .i64 0], .agg #[.int .i64 65279, .int .i64 65279, .int .i64 0], .agg #[.int .i64 65440, .int .i64 65440, .int .i64 0], .agg #[.int .i64 65520, .int .i64 65528, .int .i64 0], .agg #[.int .i64 917504, .int .i64 921599, .int .i64 0], .slice (some ⟨w.heap.size, 0, none⟩) 15 15], defers := [] }) (w' := w.alloc (.cells (flat Prp.dropped).toArray 196)) (by kernel_rfl) ?_
  simp only [List.drop_succ_cons, List.drop_zero]
  go_wp2_with fail
  go_ret
  exact ⟨rfl, rfl⟩
end Go.Proofs.YtiidjkhkcckmkaaGreatDoor

/- Layer 3: the document's Drops. -/
namespace Go.Proofs.YtiidjkhkcckmkaaGreatDoor
set_option linter.unusedSimpArgs false
set_option linter.unusedVariables false
open Go.RowKit Go.Lib
theorem rdrops_any (r : Int) (w : World) :
    Calls Tryz.prog 110 #[.int .i64 r] w fun e w' => e = .returned (.bool (Prp.drpB r)) ∧ Below w.heap.size w w' := by
  unfold Prp.drpB
  go_enter Tryz.func110, Tryz.ntmps110
  go_wp2_with fail
  refine (rdropped_any _).mono ?_
  rintro e w1 ⟨rfl, hw⟩
  replace hw := Lib.hid hw
  go_wp2_with fail
  refine (rspan_any Prp.dropped (by decide) w.heap.size r w1 (by rw [hw.out]; exact rows_new w _ _ Prp.dropped rfl) 15 rfl).mono ?_
  rintro e w2 ⟨rfl, rfl⟩
  go_wp2_with fail
  go_ret
  exact ⟨rfl, by rw [hw.out]; exact below_new _ _⟩
end Go.Proofs.YtiidjkhkcckmkaaGreatDoor

/- Layer 6: the document's table, Fold and All. -/
namespace Go.Proofs.YtiidjkhkcckmkaaGreatDoor
set_option linter.unusedSimpArgs false
set_option linter.unusedVariables false
open Go.RowKit Go.Lib
noncomputable def ctabCode (S : ByteArray) : Code :=
  ((Go.Code.region 0 #[{ dst := some 0, op := Go.Op.assign (Go.Operand.const (Go.Value.string { data := #[] })), type := 9, pos := "ref.go:7", after := #[], guard := none }] false).seq ((Go.Code.region 1 #[{ dst := some 0, op := Go.Op.assign (Go.Operand.const (Go.Value.string S)), type := 9, pos := "ref.go:8", after := #[], guard := none }] false).seq Go.Code.ret))
noncomputable def ctabS : ByteArray :=
  match Tryz.f174.body with
  | some (.seq _ (.seq (.region _ ops _) _)) => (match ops[0]? with
    | some o => (match o.op with | .assign (.const (.string s)) => s | _ => ⟨#[]⟩)
    | none => ⟨#[]⟩)
  | _ => ⟨#[]⟩
theorem ctabCode_is : Tryz.f174.body = some (ctabCode ctabS) := by kernel_rfl
theorem ctabS_rows : Lk.rows ctabS.data.toList [] 0 = Cas.T := by decide +kernel
theorem ctabS_bdd : Lk.bdd ctabS.data.toList 0 0 = true := by decide +kernel
theorem ctabS_size : ctabS.size ≤ 100000 := by decide +kernel
theorem ctable_any (w : World) :
    Calls Tryz.prog 174 #[] w fun e w' => e = .returned (.string ctabS) ∧ w = w' := by
  have hcode := ctabCode_is
  obtain ⟨S, hS⟩ : ∃ S, ctabS = S := ⟨_, rfl⟩
  rw [hS] at hcode ⊢
  replace hS := Lib.hid hS
  refine calls_of_wp Tryz.func174 hcode ?_
  clear hcode
  unfold ctabCode
  simp only [Tryz.ntmps174, List.size_toArray, List.length_nil, Nat.reduceSub, Array.replicate_succ,
     Array.replicate_zero, List.push_toArray, List.append_toArray, List.nil_append]
  go_wp2_with fail
  go_ret
  exact ⟨rfl, rfl⟩
theorem rcas_find (r : Int) (w : World) : Calls Tryz.prog 105 #[.string ctabS, .int .i64 r] w (FoundR (Lk.look Cas.T r) w) := by
  have h := rfind_any ctabS r ctabS_size ctabS_bdd w
  rw [Lk.scan_eq, ctabS_rows] at h
  exact h
set_option maxHeartbeats 800000 in
theorem rfold_any (r : Int) (w : World) : Calls Tryz.prog 144 #[.int .i64 r] w (Told (Cas.foldI r) w) := by
  have htab := Lib.hid ctable_any
  have hfind := rcas_find r
  have hf : Cas.foldI r = (Lk.look Cas.T r).getD [r] := rfl
  rw [hf]
  clear hf
  obtain ⟨S, hS⟩ : ∃ S, ctabS = S := ⟨_, rfl⟩
  rw [hS] at htab hfind
  clear hS
  obtain ⟨o, ho⟩ : ∃ o, Lk.look Cas.T r = o := ⟨_, rfl⟩
  rw [ho] at hfind ⊢
  clear ho
  cases o with
  | none =>
    replace hfind := Lib.hid hfind
    go_enter Tryz.func144, Tryz.ntmps144
    go_wp2_with fail
    refine (htab.out _).mono ?_
    rintro e w1 ⟨rfl, rfl⟩
    go_wp2_with fail
    refine (hfind.out _).mono ?_
    rintro e w1 ⟨v, rfl, hv, hb⟩
    replace hv := Lib.hid hv
    replace hb := Lib.hid hb
    simp only [Option.isSome_none]
    go_wp2_with fail
    go_ret
    exact ⟨_, rfl, ri_of_own (ownI_lit w.heap.size w1 [r] #[.int .i64 r] _ 1 rfl hb.out.size rfl rfl (by unfold maxLen; omega)), hb.out.alloc hb.out.size _⟩
  | some p =>
    replace hfind := Lib.hid hfind
    go_enter Tryz.func144, Tryz.ntmps144
    go_wp2_with fail
    refine (htab.out _).mono ?_
    rintro e w1 ⟨rfl, rfl⟩
    go_wp2_with fail
    refine (hfind.out _).mono ?_
    rintro e w1 ⟨v, rfl, hv, hb⟩
    replace hv := Lib.hid hv
    replace hb := Lib.hid hb
    simp only [Option.isSome_some]
    go_wp2_with fail
    go_ret
    exact ⟨_, rfl, hv.out, hb.out⟩
set_option maxHeartbeats 1600000 in
theorem rall_any (v : Value) (l : List Int) (w : World) (hl : l.length ≤ 1000000) (hv : RI w v l) : Calls Tryz.prog 109 #[v] w (Makes (Cas.allI l) w) := by
  obtain ⟨i0, hi, hz0, hz1, hz2⟩ := info_parts info_i
  obtain ⟨p, cap, rfl⟩ := ri_form hv
  replace hv := Lib.hid hv
  go_enter Tryz.func109, Tryz.ntmps109
  go_wp2_with fail
  go_loopg [3, 4] l.length (fun g vo vi wr => ∃ k : Nat, k ≤ l.length ∧ vi = .int .i64 k ∧ g = l.length - k ∧ OwnI w.heap.size vo (Cas.allI (l.take k)) wr ∧ Below w.heap.size w wr)
  case atStart => exact ⟨0, Nat.zero_le _, rfl, rfl, ownI_nil _ _, Below.refl _ _⟩
  case round =>
    obtain ⟨k, hk, rfl, rfl, hown, hbel⟩ := hrel
    by_cases hlt : k < l.length
    · have hlt' : (k : Int) < (l.length : Int) := by omega
      obtain ⟨b, off, rfl, hb, hcell⟩ := ri_at (ri_below hv.out hbel) (by omega)
      have hc := hcell k hlt
      obtain ⟨x, hx⟩ : ∃ x, l[k] = x := ⟨_, rfl⟩
      have hsn : l.take (k + 1) = l.take k ++ [x] := by rw [List.take_succ_eq_append_getElem hlt, hx]
      rw [hx] at hc
      have hlen := (Cas.all_len (l.take k)).2
      have hlx := (Cas.fold_len x).2
      have hall := Cas.all_snoc (l.take k) x
      rw [← hsn] at hall
      obtain ⟨m, hm⟩ : ∃ m, Cas.allI (l.take k) = m := ⟨_, rfl⟩
      obtain ⟨f, hf⟩ : ∃ f, Cas.foldI x = f := ⟨_, rfl⟩
      have hfold := rfold_any x
      rw [hm] at hown hall hlen
      rw [hf] at hall hlx hfold
      have hmk : m.length ≤ 3 * l.length := by rw [List.length_take] at hlen; omega
      replace hall := Lib.hid hall
      replace hown := Lib.hid hown
      replace hbel := Lib.hid hbel
      replace hfold := Lib.hid hfold
      clear hcell hsn hx hm hf hlen
      go_wp2_with fail
      refine (hfold.out _).mono ?_
      rintro e w1 ⟨vf, rfl, hvf, hb1⟩
      have hown1 := Lib.hid (ownI_below hown.out hb1)
      have hbel1 := Lib.hid (below_on hbel.out hb1)
      have hsrc := Lib.hid (ri_src hvf)
      clear hvf hb1
      go_wp2_with (at_builtin; refine wpList_append_src rfl _ _ 24 rfl w.heap.size 3 i0 (.int .i64 0) 8 Tryz.underlying24 hi hz0 hz1 hz2 rfl _ _ _ rfl hown1.out _ _ rfl hsrc.out (oneCellI f) (by rw [List.length_map]; unfold maxLen; omega) (by rw [List.length_map]; omega) hbel1.out.size ?_; intro v5 w5 hown5 hgrow5)
      have hown6 := ownI_of_row (l := m ++ f) hown5 (by simp) (by simp)
      have hbel6 := below_row hbel1.out hgrow5 hbel1.out.size hown1.out (Nat.le_refl _)
      go_roundg (l.length - (k + 1))
      case measure => omega
      case rel => exact ⟨k + 1, by omega, by go_num, rfl, by rw [hall.out]; exact hown6, hbel6⟩
    · obtain rfl : k = l.length := by omega
      have hlt' : decide ((l.length : Int) < (l.length : Int)) = false := by simp
      rw [List.take_length] at hown
      replace hown := Lib.hid hown
      replace hbel := Lib.hid hbel
      go_wp2_with fail
      go_ret
      exact ⟨_, rfl, hown.out, hbel.out⟩
end Go.Proofs.YtiidjkhkcckmkaaGreatDoor

/- Layer 10: the document's Left. -/
namespace Go.Proofs.YtiidjkhkcckmkaaGreatDoor
set_option linter.unusedSimpArgs false
set_option linter.unusedVariables false
open Go.RowKit Go.Lib
set_option maxHeartbeats 1600000 in
set_option maxRecDepth 100000 in
theorem rleft_any (v : Value) (l : List Int) (w : World) (hl : l.length ≤ 100000) (hv : RI w v l) : Calls Tryz.prog 68 #[v] w (Makes (Fol.leftI l) w) := by
  obtain ⟨i0, hi, hz0, hz1, hz2⟩ := info_parts info_i
  have hall := Lib.hid (rall_any v l w (by omega) hv)
  have hml := (Cas.all_len l).2
  unfold Fol.leftI
  obtain ⟨m, hm⟩ : ∃ m, Cas.allI l = m := ⟨_, rfl⟩
  rw [hm] at hall hml ⊢
  obtain ⟨F, hF⟩ : ∃ F, m.filter (fun r => !Prp.drpB r) = F := ⟨_, rfl⟩
  rw [hF]
  replace hF := Lib.hid hF
  clear hm
  go_enter Tryz.func68, Tryz.ntmps68
  go_wp2_with fail
  refine hall.out.mono ?_
  rintro e w1 ⟨v1, rfl, ho1, hb1⟩
  have hv1 := ri_of_own ho1
  obtain ⟨p, cap, rfl⟩ := ri_form hv1
  replace hv1 := Lib.hid hv1
  replace hb1 := Lib.hid hb1
  clear ho1
  go_wp2_with fail
  go_loopg [4, 5] m.length (fun g vo vi wr => ∃ (k : Nat) (o : List Int), k ≤ m.length ∧ vi = .int .i64 k ∧ g = m.length - k ∧ OwnI w1.heap.size vo o wr ∧ Hid ((m.take k).filter (fun r => !Prp.drpB r) = o) ∧ o.length ≤ k ∧ Below w1.heap.size w1 wr)
  case atStart => exact ⟨0, [], Nat.zero_le _, rfl, rfl, ownI_nil _ _, Lib.hid rfl, by simp, Below.refl _ _⟩
  case round =>
    obtain ⟨k, o, hk, rfl, rfl, hown, hfl, hok, hbel⟩ := hrel
    by_cases hlt : k < m.length
    · have hlt' : (k : Int) < (m.length : Int) := by omega
      obtain ⟨b, off, rfl, hb, hcell⟩ := ri_at hv1.out (by omega)
      have hc0 := hcell k hlt
      have hs : (m.take (k + 1)).filter (fun r => !Prp.drpB r) = o ++ (if Prp.drpB m[k] = true then [] else [m[k]]) := by
        rw [List.take_succ_eq_append_getElem hlt, List.filter_append, hfl.out]
        congr 1
        cases h : Prp.drpB m[k] <;> simp [h]
      obtain ⟨x, hx⟩ : ∃ x, m[k] = x := ⟨_, rfl⟩
      rw [hx] at hc0 hs
      have hc : wr.cell? ⟨b, off + k, none⟩ = some (.int .i64 x) := (hbel.cell hb).trans hc0
      have hdx := rdrops_any x
      replace hc0 := Lib.hid hc0
      cases hdb : Prp.drpB x with
      | true =>
        rw [hdb] at hdx hs
        simp only [if_true, List.append_nil] at hs
        replace hdx := Lib.hid hdx
        replace hs := Lib.hid hs
        replace hown := Lib.hid hown
        replace hbel := Lib.hid hbel
        clear hcell hx hdb hfl
        go_wp2_with fail
        refine (hdx.out _).mono ?_
        rintro e w2 ⟨rfl, hb2⟩
        have o2 := Lib.hid (ownI_below hown.out hb2)
        replace hb2 := Lib.hid (below_on hbel.out hb2)
        go_wp2_with fail
        go_roundg (m.length - (k + 1))
        case measure => omega
        case rel => exact ⟨k + 1, o, by omega, by go_num, rfl, o2.out, hs, by omega, hb2.out⟩
      | false =>
        rw [hdb] at hdx hs
        simp only [Bool.false_eq_true, if_false] at hs
        replace hdx := Lib.hid hdx
        replace hs := Lib.hid hs
        replace hown := Lib.hid hown
        replace hbel := Lib.hid hbel
        clear hcell hx hdb hfl
        go_upto_region 7 with (go_at_call 110; refine (hdx.out _).mono ?_; rintro e w2 ⟨rfl, hb2⟩; have o2 := Lib.hid (ownI_alloc (ownI_below hown.out hb2) (.cells #[.int .i64 x] 3)); replace hb2 := Lib.hid (below_on hbel.out hb2))
        have hc2 : w2.cell? ⟨b, off + k, none⟩ = some (.int .i64 x) := (hb2.out.cell hb).trans hc0.out
        have b2 := Lib.hid (hb2.out.alloc hb2.out.size (.cells #[.int .i64 x] 3))
        have s2 := Lib.hid (ri_src (ri_of_own (ownI_lit w1.heap.size w2 [x] #[.int .i64 x] w2.heap.size 1 rfl hb2.out.size rfl rfl (by unfold maxLen; omega))))
        go_wp2_with (at_builtin; refine wpList_append_src rfl _ _ 24 rfl w1.heap.size 3 i0 (.int .i64 0) 8 Tryz.underlying24 hi hz0 hz1 hz2 rfl _ _ _ rfl o2.out _ _ rfl s2.out (oneCellI _) (by simp only [List.length_map, List.length_append, List.length_take, List.length_drop, List.length_cons, List.length_nil, List.length_singleton]; unfold maxLen; omega) (by simp only [List.length_map, List.length_append, List.length_take, List.length_drop, List.length_cons, List.length_nil, List.length_singleton]; omega) b2.out.size ?_; intro v5 w5 ho5 hg5; have o5 := Lib.hid (ownI_of_row (l := o ++ [x]) ho5 (by (try simp); try omega) (by (try simp); try omega)); have b5 := Lib.hid (below_row b2.out hg5 b2.out.size o2.out (Nat.le_refl _)); clear ho5 hg5)
        go_roundg (m.length - (k + 1))
        case measure => omega
        case rel => exact ⟨k + 1, o ++ [x], by omega, by go_num, rfl, o5.out, hs, by simp; omega, b5.out⟩
    · obtain rfl : k = m.length := by omega
      have hlt' : decide ((m.length : Int) < (m.length : Int)) = false := by simp
      have hf2 := hfl.out
      rw [List.take_length, hF.out] at hf2
      replace hf2 := Lib.hid hf2
      replace hown := Lib.hid hown
      replace hbel := Lib.hid hbel
      clear hfl
      go_wp2_with fail
      go_ret
      exact ⟨_, rfl, by rw [hf2.out]; exact ownI_mono hown.out hb1.out.size, hb1.out.trans (hbel.out.mono hb1.out.size)⟩
end Go.Proofs.YtiidjkhkcckmkaaGreatDoor

