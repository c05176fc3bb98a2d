/- Layer 5: a number of the code's text; a pair of it. -/
import Derived.Test.YtkhjkodeolaemaaDoorPaA1
import Derived.Test.YtkhjkodeolaemaaDoorGB
namespace Go.Proofs.YtkhjkodeolaemaaDoor
set_option linter.unusedSimpArgs false
set_option linter.unusedVariables false
open Go.RowKit Go.Lib

noncomputable def numCode (S : ByteArray) : Code :=
  ((Go.Code.region 0 #[{ dst := some 4, op := Go.Op.assign (Go.Operand.const (Go.Value.int Go.IntKind.i64 0)), type := 3, pos := "pair.go:90", after := #[], guard := none }] false).seq ((Go.Code.region 1 #[{ dst := some 8, op := Go.Op.move (Go.Operand.tmp 0), type := 3, pos := "pair.go:91", after := #[], guard := none }, { dst := some 9, op := Go.Op.binOp Go.BinOp.mul 3 (Go.Operand.tmp 8) (Go.Operand.const (Go.Value.int Go.IntKind.i64 15)) 3, type := 3, pos := "pair.go:91", after := #[{ on := 0, ground := Go.Ground.data }], guard := none }, { dst := some 10, op := Go.Op.move (Go.Operand.tmp 1), type := 3, pos := "pair.go:91", after := #[], guard := none }, { dst := some 11, op := Go.Op.binOp Go.BinOp.mul 3 (Go.Operand.tmp 10) (Go.Operand.const (Go.Value.int Go.IntKind.i64 5)) 3, type := 3, pos := "pair.go:91", after := #[{ on := 2, ground := Go.Ground.data }], guard := none }, { dst := some 12, op := Go.Op.binOp Go.BinOp.add 3 (Go.Operand.tmp 9) (Go.Operand.tmp 11) 3, type := 3, pos := "pair.go:91", after := #[{ on := 1, ground := Go.Ground.data }, { on := 3, ground := Go.Ground.data }], guard := none }, { dst := some 13, op := Go.Op.slice 9 (Go.Operand.const (Go.Value.string S)) (some (Go.Operand.tmp 12)) none none, type := 9, pos := "pair.go:91", after := #[{ on := 4, ground := Go.Ground.data }], guard := none }, { dst := some 5, op := Go.Op.assign (Go.Operand.tmp 13), type := 9, pos := "pair.go:91", after := #[{ on := 5, ground := Go.Ground.data }, { on := 0, ground := Go.Ground.phase }, { on := 1, ground := Go.Ground.phase }, { on := 2, ground := Go.Ground.phase }, { on := 3, ground := Go.Ground.phase }, { on := 4, ground := Go.Ground.phase }, { on := 5, ground := Go.Ground.phase }], guard := none }] false).seq ((Go.Code.region 2 #[{ dst := some 15, op := Go.Op.move (Go.Operand.tmp 5), type := 9, pos := "pair.go:92", after := #[], guard := none }, { dst := some 16, op := Go.Op.slice 9 (Go.Operand.tmp 15) none (some (Go.Operand.const (Go.Value.int Go.IntKind.i64 4))) none, type := 9, pos := "pair.go:92", after := #[{ on := 0, ground := Go.Ground.data }], guard := none }, { dst := some 17, op := Go.Op.call { callee := Go.Callee.value (Go.Operand.func 64), args := #[Go.Operand.tmp 16, Go.Operand.const (Go.Value.int Go.IntKind.i64 16), Go.Operand.const (Go.Value.int Go.IntKind.i64 16)], argTypes := #[9, 3, 3] }, type := 81, pos := "pair.go:92", after := #[{ on := 1, ground := Go.Ground.data }], guard := none }, { dst := some 14, op := Go.Op.move (Go.Operand.tmp 17), type := 81, pos := "pair.go:92", after := #[{ on := 2, ground := Go.Ground.data }], guard := none }, { dst := some 18, op := Go.Op.extract (Go.Operand.tmp 14) 0, type := 78, pos := "pair.go:92", after := #[{ on := 3, ground := Go.Ground.data }], guard := none }, { dst := some 19, op := Go.Op.extract (Go.Operand.tmp 14) 1, type := 80, pos := "pair.go:92", after := #[{ on := 3, ground := Go.Ground.data }, { on := 6, ground := Go.Ground.gcOnly Go.Departure.lateStores }], guard := none }, { dst := some 6, op := Go.Op.assign (Go.Operand.tmp 18), type := 78, pos := "pair.go:92", after := #[{ on := 4, ground := Go.Ground.data }, { on := 2, ground := Go.Ground.chain }, { on := 0, ground := Go.Ground.phase }, { on := 1, ground := Go.Ground.phase }, { on := 2, ground := Go.Ground.phase }, { on := 3, ground := Go.Ground.phase }, { on := 4, ground := Go.Ground.phase }, { on := 5, ground := Go.Ground.textOnly Go.Departure.lateStores }], guard := none }, { dst := some 7, op := Go.Op.assign (Go.Operand.tmp 19), type := 80, pos := "pair.go:92", after := #[{ on := 5, ground := Go.Ground.data }, { on := 6, ground := Go.Ground.chain }, { on := 0, ground := Go.Ground.phase }, { on := 1, ground := Go.Ground.phase }, { on := 2, ground := Go.Ground.phase }, { on := 3, ground := Go.Ground.phase }, { on := 4, ground := Go.Ground.phase }, { on := 5, ground := Go.Ground.phase }, { on := 6, ground := Go.Ground.phase }], guard := none }] false).seq ((Go.Code.region 3 #[{ dst := some 20, op := Go.Op.move (Go.Operand.tmp 6), type := 78, pos := "pair.go:93", after := #[], guard := none }, { dst := some 21, op := Go.Op.convert 78 3 (Go.Operand.tmp 20), type := 3, pos := "pair.go:93", after := #[{ on := 0, ground := Go.Ground.data }], guard := none }, { dst := some 4, op := Go.Op.assign (Go.Operand.tmp 21), type := 3, pos := "pair.go:93", after := #[{ on := 1, ground := Go.Ground.data }, { on := 0, ground := Go.Ground.phase }, { on := 1, ground := Go.Ground.phase }], guard := none }] false).seq Go.Code.ret))))

/-- the code's own text -/
noncomputable def numS : ByteArray :=
  match Tryd.f55.body with
  | some (.seq _ (.seq (.region _ ops _) _)) => (match ops[5]? with
    | some o => (match o.op with | .slice _ (.const (.string s)) _ _ _ => s | _ => ⟨#[]⟩)
    | none => ⟨#[]⟩)
  | _ => ⟨#[]⟩

theorem numCode_is : Tryd.f55.body = some (numCode numS) := by kernel_rfl

theorem numS_size : numS.size = 4605 := by decide +kernel
theorem numS_ok : Par.okAll numS.data.toList Par.T = true := by decide +kernel

/-- a number of it, as text -/
noncomputable def numB (k n : Nat) : ByteArray := (numS.extract (k * 15 + n * 5) 4605).extract 0 4

theorem numB_list (k n : Nat) : (numB k n).data.toList = (numS.data.toList.drop (k * 15 + n * 5)).take 4 := by
  unfold numB
  rw [Lib.extract_data, Lib.extract_data, List.drop_zero, Nat.sub_zero, List.take_take]
  have h : numS.data.toList.length = 4605 := by rw [← Lib.size_eq]; exact numS_size
  rcases Nat.lt_or_ge 4605 (k * 15 + n * 5 + 4) with h1 | h1
  · rw [List.take_of_length_le (i := 4) (by rw [List.length_drop]; omega), List.take_of_length_le (by rw [List.length_drop]; omega)]
  · rw [Nat.min_eq_left (by omega)]

theorem numB_facts (k n : Nat) (hk : k < 307) (hn : n < 3) : (numB k n).size = 4 ∧ (numB k n).data.toList.all Par.hexB = true ∧ Dcp.numF (numB k n).data.toList = Par.nth (Par.T[k]'(by rw [Par.rows]; exact hk)) n := by
  obtain ⟨h1, h2⟩ := Par.okRow_parts (Par.okAll_at numS_ok k (by rw [Par.rows]; exact hk)) n hn
  refine ⟨?_, by rw [numB_list]; exact h2, by rw [numB_list]; exact h1⟩
  have h : numS.data.toList.length = 4605 := by rw [← Lib.size_eq]; exact numS_size
  rw [Lib.size_eq, numB_list, List.length_take, List.length_drop, h]
  omega

set_option maxHeartbeats 800000 in
theorem number_is (k n : Nat) (hk : k < 307) (hn : n < 3) (x : Int) (hx : Par.nth (Par.T[k]'(by rw [Par.rows]; exact hk)) n = x) (w : World) :
    Calls Tryd.prog 55 #[.int .i64 k, .int .i64 n] w fun e w' => e = .returned (.int .i64 x) ∧ Below w.heap.size w w' := by
  obtain ⟨h4, hh, hv⟩ := numB_facts k n hk hn
  rw [hx] at hv
  have hcall := parse16 (numB k n) h4 hh
  have hb := numF_hex _ hh (by rw [← Lib.size_eq, h4]; omega)
  rw [hv] at hcall hb
  obtain ⟨hb1, hb2⟩ := hb
  clear h4 hh hv hx
  unfold numB at hcall
  have hsz := numS_size
  have hcode := numCode_is
  obtain ⟨S, hS⟩ : ∃ S, numS = S := ⟨_, rfl⟩
  rw [hS] at hsz hcode hcall
  replace hS := Lib.hid hS
  refine calls_of_wp Tryd.func55 hcode ?_
  clear hcode
  unfold numCode
  replace hcall := Lib.hid hcall
  have hz4 : (S.extract (k * 15 + n * 5) 4605).size = 4605 - (k * 15 + n * 5) := by rw [ByteArray.size_extract, hsz]; omega
  simp only [Tryd.ntmps55, List.size_toArray, List.length_cons, List.length_nil, Nat.reduceAdd, Nat.reduceSub, Array.replicate_succ,
     Array.replicate_zero, List.push_toArray, List.append_toArray, List.nil_append, List.cons_append]
  go_wp2_with fail
  refine (hcall.out _).mono ?_
  rintro e w1 ⟨rfl, hb⟩
  replace hb := Lib.hid hb
  go_wp2_with fail
  go_ret
  exact ⟨rfl, hb.out⟩

/-- a pair of the text -/
theorem pair_is (k : Nat) (hk : k < 307) (x y : Int) (hx : (Par.T[k]'(by rw [Par.rows]; exact hk)).1 = x) (hy : (Par.T[k]'(by rw [Par.rows]; exact hk)).2.1 = y) (w : World) :
    Calls Tryd.prog 54 #[.int .i64 k] w fun e w' => e = .returned (.agg #[.int .i64 x, .int .i64 y]) ∧ Below w.heap.size w w' := by
  have h0 := Lib.hid (number_is k 0 hk (by omega) x (by rw [← hx]; rfl))
  have h1 := Lib.hid (number_is k 1 hk (by omega) y (by rw [← hy]; rfl))
  clear hx hy
  go_enter Tryd.func54, Tryd.ntmps54
  go_wp2_with fail
  refine (h0.out _).mono ?_
  rintro e w1 ⟨rfl, hb1⟩
  replace hb1 := Lib.hid hb1
  go_wp2_with fail
  refine (h1.out _).mono ?_
  rintro e w2 ⟨rfl, hb2⟩
  have hbel := (below_in hb1.out).trans (hb2.mono (below_in hb1.out).size)
  have hk2 := blk_below (blk_below (blk_new w #[.int .i64 0, .int .i64 0] 56) hb1.out) hb2
  have c0 := blk_cell hk2 0 _ rfl
  have c1 := blk_cell hk2 1 _ rfl
  have f0 := blk_thaw hk2 0
  have f1 := blk_thaw hk2 1
  replace hk2 := Lib.hid hk2
  replace hbel := Lib.hid hbel
  clear hb2
  go_wp2_with fail
  have e1 : ((w2.setCell ⟨w.heap.size, 0, none⟩ (.int .i64 x)).setCell ⟨w.heap.size, 1, none⟩ (.int .i64 y)).cell? ⟨w.heap.size, 1, none⟩ = some (.int .i64 y) := by
    refine World.cell?_setCell_same _ _ _ (u := .int .i64 0) ?_
    rw [World.cell?_setCell_other]
    · exact c1
    · simp
  have e0 : ((w2.setCell ⟨w.heap.size, 0, none⟩ (.int .i64 x)).setCell ⟨w.heap.size, 1, none⟩ (.int .i64 y)).cell? ⟨w.heap.size, 0, none⟩ = some (.int .i64 x) := by
    rw [World.cell?_setCell_other]
    · exact World.cell?_setCell_same _ _ _ c0
    · simp
  refine bodyPost_ret (v := .agg #[.int .i64 x, .int .i64 y]) ?_ rfl ⟨rfl, (hbel.out.setCell (by simp) _).setCell (by simp) _⟩
  simp [results, Tryd.results54, go_sem, e0, e1]

theorem compare_any (a b : Int) (w : World) : Calls Tryd.prog 42 #[.int .i64 a, .int .i64 b] w fun e w' => e = .returned (.int .i64 (Lib.compareInt a b)) ∧ w = w' :=
  (Tryd.cmp_Compare_int a b w).mono fun _ _ h => ⟨h.1, h.2.symm⟩

theorem cmp_parts (a b c d : Int) : Par.cmpK a b c d = if Lib.compareInt a c = 0 then Lib.compareInt b d else Lib.compareInt a c := by
  unfold Par.cmpK Lib.compareInt
  (repeat' split) <;> omega

set_option maxHeartbeats 800000 in
/-- two pairs against each other -/
theorem compares_is (a b c d : Int) (g h : Nat) (w : World) (ca : w.cell? ⟨g, 0, none⟩ = some (.int .i64 a)) (cb : w.cell? ⟨g, 1, none⟩ = some (.int .i64 b))
    (cc : w.cell? ⟨h, 0, none⟩ = some (.int .i64 c)) (cd : w.cell? ⟨h, 1, none⟩ = some (.int .i64 d)) :
    Calls Tryd.prog 63 #[.slice (some ⟨g, 0, none⟩) 2 2, .slice (some ⟨h, 0, none⟩) 2 2] w fun e w' => e = .returned (.int .i64 (Par.cmpK a b c d)) ∧ w = w' := by
  have hparts := Lib.hid (cmp_parts a b c d)
  obtain ⟨z, hz⟩ : ∃ z, Par.cmpK a b c d = z := ⟨_, rfl⟩
  rw [hz] at hparts ⊢
  replace hz := Lib.hid hz
  have h1 := Lib.hid (compare_any a c)
  have h2 := Lib.hid (compare_any b d)
  obtain ⟨p, hp⟩ : ∃ p, Lib.compareInt a c = p := ⟨_, rfl⟩
  obtain ⟨q, hq⟩ : ∃ q, Lib.compareInt b d = q := ⟨_, rfl⟩
  rw [hp] at h1 hparts
  rw [hq] at h2 hparts
  replace hp := Lib.hid hp
  replace hq := Lib.hid hq
  go_enter Tryd.func63, Tryd.ntmps63
  go_wp2_with fail
  go_loopg [11] 2 (fun g i wr => ∃ k : Nat, k ≤ 2 ∧ i = .int .i64 k ∧ g = 2 - k ∧ wr = w ∧ Hid ((0 < k → p = 0) ∧ (1 < k → q = 0)))
  case atStart => exact ⟨0, by omega, rfl, rfl, rfl, Lib.hid ⟨by omega, by omega⟩⟩
  case round =>
    obtain ⟨k, hk, rfl, rfl, rfl, hf⟩ := hrel
    match k, hk with
    | 0, _ =>
      by_cases hz0 : p = 0
      · subst hz0
        go_wp2_with fail
        refine (h1.out _).mono ?_
        rintro e w1 ⟨rfl, rfl⟩
        go_wp2_with fail
        go_roundg 1
        case measure => omega
        case rel => exact ⟨1, by omega, by go_num, rfl, rfl, Lib.hid ⟨by simp, by omega⟩⟩
      · have hne : (p == 0) = false := beq_eq_false_iff_ne.2 hz0
        have hr := hparts.out
        rw [if_neg hz0] at hr
        replace hr := Lib.hid hr
        clear hz0
        go_wp2_with fail
        refine (h1.out _).mono ?_
        rintro e w1 ⟨rfl, rfl⟩
        go_wp2_with fail
        go_ret
        exact ⟨by rw [hr.out]; rfl, rfl⟩
    | 1, _ =>
      have hp0 : p = 0 := hf.out.1 (by omega)
      have hr := hparts.out
      rw [if_pos hp0] at hr
      replace hr := Lib.hid hr
      replace hp0 := Lib.hid hp0
      by_cases hz0 : q = 0
      · subst hz0
        go_wp2_with fail
        refine (h2.out _).mono ?_
        rintro e w1 ⟨rfl, rfl⟩
        go_wp2_with fail
        go_roundg 0
        case measure => omega
        case rel => exact ⟨2, by omega, by go_num, rfl, rfl, Lib.hid ⟨fun _ => hp0.out, by simp⟩⟩
      · have hne : (q == 0) = false := beq_eq_false_iff_ne.2 hz0
        clear hz0
        go_wp2_with fail
        refine (h2.out _).mono ?_
        rintro e w1 ⟨rfl, rfl⟩
        go_wp2_with fail
        go_ret
        exact ⟨by rw [hr.out]; rfl, rfl⟩
    | 2, _ =>
      have hp0 : p = 0 := hf.out.1 (by omega)
      have hq0 : q = 0 := hf.out.2 (by omega)
      have hr := hparts.out
      rw [if_pos hp0, hq0] at hr
      replace hr := Lib.hid hr
      clear hp0 hq0
      go_wp2_with fail
      go_ret
      exact ⟨by rw [hr.out]; rfl, rfl⟩

end Go.Proofs.YtkhjkodeolaemaaDoor
