/- Layer 6: the document's table, Fold and All. -/
import Derived.Test.YtfmnecknfmgggaaGreatDoorCaM
import Derived.Test.YtfmnecknfmgggaaGreatDoorDeR2
namespace Go.Proofs.YtfmnecknfmgggaaGreatDoor
set_option linter.unusedSimpArgs false
set_option linter.unusedVariables false
open Go.RowKit Go.Lib

noncomputable def ctabCode (S : ByteArray) : Code :=
  ((Go.Code.region 0 #[{ dst := some 0, op := Go.Op.assign (Go.Operand.const (Go.Value.string { data := #[] })), type := 9, pos := "ref.go:7", after := #[], guard := none }] false).seq ((Go.Code.region 1 #[{ dst := some 0, op := Go.Op.assign (Go.Operand.const (Go.Value.string S)), type := 9, pos := "ref.go:8", after := #[], guard := none }] false).seq Go.Code.ret))

/-- the document's own text -/
noncomputable def ctabS : ByteArray :=
  match Tryz.f67.body with
  | some (.seq _ (.seq (.region _ ops _) _)) => (match ops[0]? with
    | some o => (match o.op with | .assign (.const (.string s)) => s | _ => ⟨#[]⟩)
    | none => ⟨#[]⟩)
  | _ => ⟨#[]⟩

theorem ctabCode_is : Tryz.f67.body = some (ctabCode ctabS) := by kernel_rfl

theorem ctabS_rows : Lk.rows ctabS.data.toList [] 0 = Cas.T := by decide +kernel
theorem ctabS_bdd : Lk.bdd ctabS.data.toList 0 0 = true := by decide +kernel
theorem ctabS_size : ctabS.size ≤ 100000 := by decide +kernel

theorem ctable_any (w : World) :
    Calls Tryz.prog 67 #[] w fun e w' => e = .returned (.string ctabS) ∧ w = w' := by
  have hcode := ctabCode_is
  obtain ⟨S, hS⟩ : ∃ S, ctabS = S := ⟨_, rfl⟩
  rw [hS] at hcode ⊢
  replace hS := Lib.hid hS
  refine calls_of_wp Tryz.func67 hcode ?_
  clear hcode
  unfold ctabCode
  simp only [Tryz.ntmps67, List.size_toArray, List.length_nil, Nat.reduceSub, Array.replicate_succ,
     Array.replicate_zero, List.push_toArray, List.append_toArray, List.nil_append]
  go_wp2_with fail
  go_ret
  exact ⟨rfl, rfl⟩

theorem rcas_find (r : Int) (w : World) : Calls Tryz.prog 63 #[.string ctabS, .int .i64 r] w (FoundR (Lk.look Cas.T r) w) := by
  have h := rfind_any ctabS r ctabS_size ctabS_bdd w
  rw [Lk.scan_eq, ctabS_rows] at h
  exact h

set_option maxHeartbeats 800000 in
theorem rfold_any (r : Int) (w : World) : Calls Tryz.prog 42 #[.int .i64 r] w (Told (Cas.foldI r) w) := by
  have htab := Lib.hid ctable_any
  have hfind := rcas_find r
  have hf : Cas.foldI r = (Lk.look Cas.T r).getD [r] := rfl
  rw [hf]
  clear hf
  obtain ⟨S, hS⟩ : ∃ S, ctabS = S := ⟨_, rfl⟩
  rw [hS] at htab hfind
  clear hS
  obtain ⟨o, ho⟩ : ∃ o, Lk.look Cas.T r = o := ⟨_, rfl⟩
  rw [ho] at hfind ⊢
  clear ho
  cases o with
  | none =>
    replace hfind := Lib.hid hfind
    go_enter Tryz.func42, Tryz.ntmps42
    go_wp2_with fail
    refine (htab.out _).mono ?_
    rintro e w1 ⟨rfl, rfl⟩
    go_wp2_with fail
    refine (hfind.out _).mono ?_
    rintro e w1 ⟨v, rfl, hv, hb⟩
    replace hv := Lib.hid hv
    replace hb := Lib.hid hb
    simp only [Option.isSome_none]
    go_wp2_with fail
    go_ret
    exact ⟨_, rfl, ri_of_own (ownI_lit w.heap.size w1 [r] #[.int .i64 r] _ 1 rfl hb.out.size rfl rfl (by unfold maxLen; omega)), hb.out.alloc hb.out.size _⟩
  | some p =>
    replace hfind := Lib.hid hfind
    go_enter Tryz.func42, Tryz.ntmps42
    go_wp2_with fail
    refine (htab.out _).mono ?_
    rintro e w1 ⟨rfl, rfl⟩
    go_wp2_with fail
    refine (hfind.out _).mono ?_
    rintro e w1 ⟨v, rfl, hv, hb⟩
    replace hv := Lib.hid hv
    replace hb := Lib.hid hb
    simp only [Option.isSome_some]
    go_wp2_with fail
    go_ret
    exact ⟨_, rfl, hv.out, hb.out⟩

set_option maxHeartbeats 1600000 in
theorem rall_any (v : Value) (l : List Int) (w : World) (hl : l.length ≤ 1000000) (hv : RI w v l) : Calls Tryz.prog 23 #[v] w (Makes (Cas.allI l) w) := by
  obtain ⟨i0, hi, hz0, hz1, hz2⟩ := info_parts info_i
  obtain ⟨p, cap, rfl⟩ := ri_form hv
  replace hv := Lib.hid hv
  go_enter Tryz.func23, Tryz.ntmps23
  go_wp2_with fail
  go_loopg [3, 4] l.length (fun g vo vi wr => ∃ k : Nat, k ≤ l.length ∧ vi = .int .i64 k ∧ g = l.length - k ∧ OwnI w.heap.size vo (Cas.allI (l.take k)) wr ∧ Below w.heap.size w wr)
  case atStart => exact ⟨0, Nat.zero_le _, rfl, rfl, ownI_nil _ _, Below.refl _ _⟩
  case round =>
    obtain ⟨k, hk, rfl, rfl, hown, hbel⟩ := hrel
    by_cases hlt : k < l.length
    · have hlt' : (k : Int) < (l.length : Int) := by omega
      obtain ⟨b, off, rfl, hb, hcell⟩ := ri_at (ri_below hv.out hbel) (by omega)
      have hc := hcell k hlt
      obtain ⟨x, hx⟩ : ∃ x, l[k] = x := ⟨_, rfl⟩
      have hsn : l.take (k + 1) = l.take k ++ [x] := by rw [List.take_succ_eq_append_getElem hlt, hx]
      rw [hx] at hc
      have hlen := (Cas.all_len (l.take k)).2
      have hlx := (Cas.fold_len x).2
      have hall := Cas.all_snoc (l.take k) x
      rw [← hsn] at hall
      obtain ⟨m, hm⟩ : ∃ m, Cas.allI (l.take k) = m := ⟨_, rfl⟩
      obtain ⟨f, hf⟩ : ∃ f, Cas.foldI x = f := ⟨_, rfl⟩
      have hfold := rfold_any x
      rw [hm] at hown hall hlen
      rw [hf] at hall hlx hfold
      have hmk : m.length ≤ 3 * l.length := by rw [List.length_take] at hlen; omega
      replace hall := Lib.hid hall
      replace hown := Lib.hid hown
      replace hbel := Lib.hid hbel
      replace hfold := Lib.hid hfold
      clear hcell hsn hx hm hf hlen
      go_wp2_with fail
      refine (hfold.out _).mono ?_
      rintro e w1 ⟨vf, rfl, hvf, hb1⟩
      have hown1 := Lib.hid (ownI_below hown.out hb1)
      have hbel1 := Lib.hid (below_on hbel.out hb1)
      have hsrc := Lib.hid (ri_src hvf)
      clear hvf hb1
      go_wp2_with (at_builtin; refine wpList_append_src rfl _ _ 22 rfl w.heap.size 3 i0 (.int .i64 0) 8 Tryz.underlying22 hi hz0 hz1 hz2 rfl _ _ _ rfl hown1.out _ _ rfl hsrc.out (oneCellI f) (by rw [List.length_map]; unfold maxLen; omega) (by rw [List.length_map]; omega) hbel1.out.size ?_; intro v5 w5 hown5 hgrow5)
      have hown6 := ownI_of_row (l := m ++ f) hown5 (by simp) (by simp)
      have hbel6 := below_row hbel1.out hgrow5 hbel1.out.size hown1.out (Nat.le_refl _)
      go_roundg (l.length - (k + 1))
      case measure => omega
      case rel => exact ⟨k + 1, by omega, by go_num, rfl, by rw [hall.out]; exact hown6, hbel6⟩
    · obtain rfl : k = l.length := by omega
      have hlt' : decide ((l.length : Int) < (l.length : Int)) = false := by simp
      rw [List.take_length] at hown
      replace hown := Lib.hid hown
      replace hbel := Lib.hid hbel
      go_wp2_with fail
      go_ret
      exact ⟨_, rfl, hown.out, hbel.out⟩

end Go.Proofs.YtfmnecknfmgggaaGreatDoor
