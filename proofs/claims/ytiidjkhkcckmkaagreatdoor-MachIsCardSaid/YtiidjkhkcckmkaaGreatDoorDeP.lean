/- Texts that stand together. -/
import Derived.Test.YtiidjkhkcckmkaaGreatDoorMthP
import Derived.Lib.Bytealg
import Derived.Test.YtiidjkhkcckmkaaGreatDoorBasP
import Derived.Test.YtiidjkhkcckmkaaGreatDoorShelf
import Derived.Deep.LoopGhost
import Derived.Deep.DeepCutAuto
import Derived.KernelRfl
/- Layer 4, plain mathematics: the code's own text of rows of one length, read number by number. -/
namespace Go.Proofs.YtiidjkhkcckmkaaGreatDoor.Dcp
set_option linter.unusedSimpArgs false
set_option linter.unusedVariables false
def hexL : List UInt8 := [48, 49, 50, 51, 52, 53, 54, 55, 56, 57, 65, 66, 67, 68, 69, 70]
def hexD (c : UInt8) : Int := Lib.indexByte hexL c
theorem hexD_all : ∀ n : Fin 256, -1 ≤ hexD (UInt8.ofNat n.1) ∧ hexD (UInt8.ofNat n.1) ≤ 15 := by decide +kernel
theorem hexD_bd (c : UInt8) : -1 ≤ hexD c ∧ hexD c ≤ 15 := by
  have h := hexD_all ⟨c.toNat, c.toNat_lt⟩
  simpa using h
def numF (l : List UInt8) : Int := l.foldl (fun n c => n * 16 + hexD c) 0
theorem numF_snoc (l : List UInt8) (c : UInt8) : numF (l ++ [c]) = numF l * 16 + hexD c := by simp [numF]
theorem numF_bd (l : List UInt8) (h : l.length ≤ 4) : -65536 < numF l ∧ numF l < 65536 := by
  match l, h with
  | [], _ => decide
  | [a], _ => have := hexD_bd a; simp only [numF, List.foldl]; omega
  | [a, b], _ => have := hexD_bd a; have := hexD_bd b; simp only [numF, List.foldl]; omega
  | [a, b, c], _ => have := hexD_bd a; have := hexD_bd b; have := hexD_bd c; simp only [numF, List.foldl]; omega
  | [a, b, c, d], _ => have := hexD_bd a; have := hexD_bd b; have := hexD_bd c; have := hexD_bd d; simp only [numF, List.foldl]; omega
  | _ :: _ :: _ :: _ :: _ :: _, h => simp at h
def madeF (l : List UInt8) : Nat → Nat → List Int
  | 0, _ => []
  | f + 1, k => if (l.drop ((1 + k) * 5)).headD 0 = 32 then [] else numF ((l.drop ((1 + k) * 5)).take 4) :: madeF l f (k + 1)
theorem madeF_len (l : List UInt8) (f k : Nat) : (madeF l f k).length ≤ f := by
  induction f generalizing k with
  | zero => exact Nat.le_refl _
  | succ f ih => unfold madeF; split <;> simp; exact ih _
def okRow (l : List UInt8) (s : Int × List Int) : Bool := decide (l.length = 25) && decide (numF (l.take 4) = s.1) && decide (madeF l 4 0 = s.2)
def okAll : List UInt8 → List (Int × List Int) → Bool
  | l, [] => l.isEmpty
  | l, s :: t => okRow (l.take 25) s && okAll (l.drop 25) t
theorem okAll_at {l : List UInt8} {t : List (Int × List Int)} (h : okAll l t = true) (k : Nat) (hk : k < t.length) : okRow ((l.drop (k * 25)).take 25) t[k] = true := by
  induction t generalizing l k with
  | nil => simp at hk
  | cons s t ih =>
    simp only [okAll, Bool.and_eq_true] at h
    cases k with
    | zero => simpa using h.1
    | succ k =>
      have := ih h.2 k (by simpa using hk)
      rw [List.drop_drop] at this
      rw [show (k + 1) * 25 = 25 + k * 25 by omega]
      exact this
theorem okRow_parts {l : List UInt8} {s : Int × List Int} (h : okRow l s = true) : l.length = 25 ∧ numF (l.take 4) = s.1 ∧ madeF l 4 0 = s.2 := by
  simp only [okRow, Bool.and_eq_true, decide_eq_true_eq] at h
  exact ⟨h.1.1, h.1.2, h.2⟩
theorem up : Lk.upB T = true := by decide +kernel
theorem rows : T.length = 374 := by decide +kernel
end Go.Proofs.YtiidjkhkcckmkaaGreatDoor.Dcp

/- Layer 4: a row of the code's text; a number read. -/
namespace Go.Proofs.YtiidjkhkcckmkaaGreatDoor
set_option linter.unusedSimpArgs false
set_option linter.unusedVariables false
open Go.RowKit Go.Lib
noncomputable def rowCode (S : ByteArray) : Code :=
  ((Go.Code.region 0 #[{ dst := some 2, op := Go.Op.assign (Go.Operand.const (Go.Value.string { data := #[] })), type := 9, pos := "decomp.go:81", after := #[], guard := none }] false).seq ((Go.Code.region 1 #[{ dst := some 3, op := Go.Op.move (Go.Operand.tmp 0), type := 3, pos := "decomp.go:81", after := #[], guard := none }, { dst := some 4, op := Go.Op.binOp Go.BinOp.mul 3 (Go.Operand.tmp 3) (Go.Operand.const (Go.Value.int Go.IntKind.i64 25)) 3, type := 3, pos := "decomp.go:81", after := #[{ on := 0, ground := Go.Ground.data }], guard := none }, { dst := some 5, op := Go.Op.move (Go.Operand.tmp 0), type := 3, pos := "decomp.go:81", after := #[], guard := none }, { dst := some 6, op := Go.Op.binOp Go.BinOp.add 3 (Go.Operand.tmp 5) (Go.Operand.const (Go.Value.int Go.IntKind.i64 1)) 3, type := 3, pos := "decomp.go:81", after := #[{ on := 2, ground := Go.Ground.data }], guard := none }, { dst := some 7, op := Go.Op.binOp Go.BinOp.mul 3 (Go.Operand.tmp 6) (Go.Operand.const (Go.Value.int Go.IntKind.i64 25)) 3, type := 3, pos := "decomp.go:81", after := #[{ on := 3, ground := Go.Ground.data }], guard := none }, { dst := some 8, op := Go.Op.slice 9 (Go.Operand.const (Go.Value.string S)) (some (Go.Operand.tmp 4)) (some (Go.Operand.tmp 7)) none, type := 9, pos := "decomp.go:81", after := #[{ on := 1, ground := Go.Ground.data }, { on := 4, ground := Go.Ground.data }], guard := none }, { dst := some 2, op := Go.Op.assign (Go.Operand.tmp 8), type := 9, pos := "decomp.go:81", after := #[{ on := 5, ground := Go.Ground.data }, { on := 0, ground := Go.Ground.phase }, { on := 1, ground := Go.Ground.phase }, { on := 2, ground := Go.Ground.phase }, { on := 3, ground := Go.Ground.phase }, { on := 4, ground := Go.Ground.phase }, { on := 5, ground := Go.Ground.phase }], guard := none }] false).seq Go.Code.ret))
noncomputable def rowS : ByteArray :=
  match Tryz.f186.body with
  | some (.seq _ (.seq (.region _ ops _) _)) => (match ops[5]? with
    | some o => (match o.op with | .slice _ (.const (.string s)) _ _ _ => s | _ => ⟨#[]⟩)
    | none => ⟨#[]⟩)
  | _ => ⟨#[]⟩
theorem rowCode_is : Tryz.f186.body = some (rowCode rowS) := by kernel_rfl
theorem rowS_size : rowS.size = 9350 := by decide +kernel
theorem rowS_ok : Dcp.okAll rowS.data.toList Dcp.T = true := by decide +kernel
noncomputable def rowB (k : Nat) : ByteArray := rowS.extract (k * 25) ((k + 1) * 25)
theorem rowB_list (k : Nat) : (rowB k).data.toList = (rowS.data.toList.drop (k * 25)).take 25 := by
  unfold rowB
  rw [Lib.extract_data, show (k + 1) * 25 - k * 25 = 25 by omega]
theorem row_any (k : Nat) (hk : k < 374) (w : World) :
    Calls Tryz.prog 186 #[.int .i64 k] w fun e w' => e = .returned (.string (rowB k)) ∧ w = w' := by
  unfold rowB
  have hsz := rowS_size
  have hcode := rowCode_is
  obtain ⟨S, hS⟩ : ∃ S, rowS = S := ⟨_, rfl⟩
  rw [hS] at hsz hcode ⊢
  replace hS := Lib.hid hS
  refine calls_of_wp Tryz.func186 hcode ?_
  clear hcode
  unfold rowCode
  simp only [Tryz.ntmps186, List.size_toArray, List.length_cons, List.length_nil, Nat.reduceAdd, Nat.reduceSub, Array.replicate_succ,
     Array.replicate_zero, List.push_toArray, List.append_toArray, List.nil_append, List.cons_append]
  go_wp2_with fail
  go_ret
  exact ⟨rfl, rfl⟩
end Go.Proofs.YtiidjkhkcckmkaaGreatDoor

/- Layer 4: number. -/
namespace Go.Proofs.YtiidjkhkcckmkaaGreatDoor
set_option linter.unusedSimpArgs false
set_option linter.unusedVariables false
open Go.RowKit Go.Lib
theorem hex_any (c : UInt8) (w : World) :
    Calls Tryz.prog 199 #[.string ⟨#[48, 49, 50, 51, 52, 53, 54, 55, 56, 57, 65, 66, 67, 68, 69, 70]⟩, .int .u8 (c.toNat : Int)] w fun e w' => e = .returned (.int .i64 (Dcp.hexD c)) ∧ w = w' := by
  refine (Tryz.strings_IndexByte _ _ _).mono ?_
  rintro e w' ⟨rfl, rfl⟩
  refine ⟨?_, rfl⟩
  rw [show ((c.toNat : Int)).toNat.toUInt8 = c by simp]
  rfl
theorem take_snocB (s : ByteArray) (k : Nat) (h : k < s.size) : s.data.toList.take (k + 1) = s.data.toList.take k ++ [s[k]] := by
  rw [List.take_succ_eq_append_getElem (by simpa using h)]
  rfl
set_option maxHeartbeats 800000 in
theorem number_any (s : ByteArray) (hs : 4 ≤ s.size) (hs2 : s.size ≤ 100) (w : World) :
    Calls Tryz.prog 185 #[.string s] w fun e w' => e = .returned (.int .i64 (Dcp.numF (s.data.toList.take 4))) ∧ w = w' := by
  go_enter Tryz.func185, Tryz.ntmps185
  go_wp2_with fail
  go_loopg [3, 5] 4 (fun g n i wr => ∃ k : Nat, k ≤ 4 ∧ i = .int .i64 k ∧ n = .int .i64 (Dcp.numF (s.data.toList.take k)) ∧ g = 4 - k ∧ wr = w)
  case atStart => exact ⟨0, by omega, rfl, rfl, rfl, rfl⟩
  case round =>
    obtain ⟨k, hk, rfl, rfl, rfl, rfl⟩ := hrel
    have hb := Dcp.numF_bd (s.data.toList.take k) (by rw [List.length_take]; omega)
    by_cases hlt : k < 4
    · have hlt' : (k : Int) < 4 := by omega
      have hks : k < s.size := by omega
      have hsn := take_snocB s k hks
      obtain ⟨c, hc⟩ : ∃ c, s[k] = c := ⟨_, rfl⟩
      obtain ⟨x, hx⟩ : ∃ x, Dcp.numF (s.data.toList.take k) = x := ⟨_, rfl⟩
      rw [hc] at hsn
      have hnx := Dcp.numF_snoc (s.data.toList.take k) c
      rw [← hsn, hx] at hnx
      rw [hx] at hb
      have hd := Dcp.hexD_bd c
      obtain ⟨d, hd'⟩ : ∃ d, Dcp.hexD c = d := ⟨_, rfl⟩
      rw [hd'] at hd hnx
      have hcall := hex_any c
      rw [hd'] at hcall
      obtain ⟨hb1, hb2⟩ := hb
      obtain ⟨hd1, hd2⟩ := hd
      replace hcall := Lib.hid hcall
      replace hnx := Lib.hid hnx
      clear hsn hd'
      go_wp2_with fail
      refine (hcall.out _).mono ?_
      rintro e w1 ⟨rfl, rfl⟩
      go_wp2_with fail
      go_roundg (4 - (k + 1))
      case measure => omega
      case rel => exact ⟨k + 1, by omega, by go_num, by rw [hnx.out], rfl, rfl⟩
    · obtain rfl : k = 4 := by omega
      obtain ⟨x, hx⟩ : ∃ x, Dcp.numF (s.data.toList.take 4) = x := ⟨_, rfl⟩
      rw [hx]
      go_wp2_with fail
      go_ret
      exact ⟨by rw [hx]; rfl, rfl⟩
theorem made_len {L : List UInt8} {k : Nat} {xs : List Int} (__hk : k ≤ 4) (h : xs ++ Dcp.madeF L (4 - k) k = Dcp.madeF L 4 0) : xs.length ≤ 4 := by
  have := Dcp.madeF_len L 4 0
  rw [← h, List.length_append] at this
  omega
theorem madeF_step {L : List UInt8} {k : Nat} (hk : k < 4) : Dcp.madeF L (4 - k) k = if (L.drop ((1 + k) * 5)).headD 0 = 32 then [] else Dcp.numF ((L.drop ((1 + k) * 5)).take 4) :: Dcp.madeF L (4 - (k + 1)) (k + 1) := by
  rw [show 4 - k = 4 - (k + 1) + 1 by omega, Dcp.madeF]
theorem headD_at {L : List UInt8} (h : 0 < L.length) : L.headD 0 = L[0] := by
  cases L with
  | nil => simp at h
  | cons a t => rfl
set_option maxHeartbeats 1600000 in
theorem made_any (s : ByteArray) (hs : s.size = 25) (w : World) :
    Calls Tryz.prog 163 #[.string s] w fun e w' => ∃ v, e = .returned v ∧ OwnI w.heap.size v (Dcp.madeF s.data.toList 4 0) w' ∧ Below w.heap.size w w' := by
  obtain ⟨i0, hi, hz0, hz1, hz2⟩ := info_parts info_i
  go_enter Tryz.func163, Tryz.ntmps163
  go_wp2_with fail
  go_loopg [3, 6] 4 (fun g v i wr => ∃ (k : Nat) (xs : List Int), k ≤ 4 ∧ i = .int .i64 k ∧ xs ++ Dcp.madeF s.data.toList (4 - k) k = Dcp.madeF s.data.toList 4 0 ∧ OwnI w.heap.size v xs wr ∧ Below w.heap.size w wr ∧ g = 4 - k)
  case atStart => exact ⟨0, [], by omega, rfl, rfl, ownI_nil _ _, Below.refl _ _, rfl⟩
  case round =>
    obtain ⟨k, xs, hk, rfl, hxs, hown, hbel, rfl⟩ := hrel
    have hxl := made_len hk hxs
    by_cases hlt : k < 4
    · have hlt' : (k : Int) < 4 := by omega
      have hkk : (1 + k) * 5 < s.size := by omega
      rw [madeF_step hlt] at hxs
      obtain ⟨t, ht⟩ : ∃ t, s.extract ((1 + k) * 5) 25 = t := ⟨_, rfl⟩
      have htl : t.data.toList = s.data.toList.drop ((1 + k) * 5) := by rw [← ht, Lib.extract_data]; apply List.take_of_length_le; simp [hs]
      have hts : t.size = 25 - (1 + k) * 5 := by rw [← ht]; simp [hs]
      have ht4 : 4 ≤ t.size := by omega
      have ht100 : t.size ≤ 100 := by omega
      have ht0 : 0 < t.size := by omega
      obtain ⟨c, hc⟩ : ∃ c, t[0] = c := ⟨_, rfl⟩
      have hhd : t.data.toList.headD 0 = c := by rw [headD_at (by simpa using ht0)]; exact hc
      rw [← htl, hhd] at hxs
      replace htl := Lib.hid htl
      replace hhd := Lib.hid hhd
      replace hts := Lib.hid hts
      replace hown := Lib.hid hown
      replace hbel := Lib.hid hbel
      by_cases h32 : c = 32
      · rw [if_pos h32, List.append_nil] at hxs
        have hc32 : ((c.toNat : Int) == 32) = true := by rw [h32]; rfl
        replace hxs := Lib.hid hxs
        clear h32
        go_wp2_with fail
        go_ret
        exact ⟨_, rfl, ownI_cast hown.out hxs.out, hbel.out⟩
      · rw [if_neg h32] at hxs
        have hc32 : ((c.toNat : Int) == 32) = false := by
          refine beq_eq_false_iff_ne.2 fun e => h32 (UInt8.toNat_inj.1 ?_)
          show c.toNat = 32
          omega
        obtain ⟨x, hx⟩ : ∃ x, Dcp.numF (t.data.toList.take 4) = x := ⟨_, rfl⟩
        have hnum := number_any t ht4 ht100 wr
        rw [hx] at hxs hnum
        replace hxs := Lib.hid hxs
        replace hx := Lib.hid hx
        replace hnum := Lib.hid hnum
        clear h32
        go_wp2_with fail
        refine hnum.out.mono ?_
        rintro e w1 ⟨rfl, rfl⟩
        have hown2 := ownI_alloc hown.out (.cells #[.int .i64 x] 3)
        have hone := ri_src (ri_of_own (ownI_lit w.heap.size wr [x] #[.int .i64 x] wr.heap.size 1 rfl hbel.out.size rfl rfl (by unfold maxLen; omega)))
        have hbel2 := hbel.out.alloc hbel.out.size (.cells #[.int .i64 x] 3)
        have hmx : xs.length + [x].length ≤ maxLen ∧ (xs.length + [x].length) * 8 ≤ 140737488355328 := by unfold maxLen; simp; omega
        replace hown2 := Lib.hid hown2
        replace hbel2 := Lib.hid hbel2
        go_wp2_with (at_builtin; refine wpList_append_src rfl _ _ 24 rfl w.heap.size 3 i0 (.int .i64 0) 8 Tryz.underlying24 hi hz0 hz1 hz2 rfl _ _ _ rfl hown2.out _ _ rfl hone (oneCellI [x]) (by simpa using hmx.1) (by simpa using hmx.2) hbel2.out.size ?_; intro v5 w5 hown5 hgrow5)
        have hown6 := ownI_of_row (l := xs ++ [x]) hown5 (by simp) (by simp)
        have hbel6 := below_row hbel2.out hgrow5 hbel2.out.size hown2.out (Nat.le_refl _)
        go_roundg (4 - (k + 1))
        case measure => omega
        case rel => exact ⟨k + 1, xs ++ [x], by omega, by go_num, by rw [List.append_assoc]; exact hxs.out, hown6, hbel6, rfl⟩
    · obtain rfl : k = 4 := by omega
      rw [show Dcp.madeF s.data.toList (4 - 4) 4 = [] from rfl, List.append_nil] at hxs
      replace hxs := Lib.hid hxs
      replace hown := Lib.hid hown
      replace hbel := Lib.hid hbel
      go_wp2_with fail
      go_ret
      exact ⟨_, rfl, ownI_cast hown.out hxs.out, hbel.out⟩
end Go.Proofs.YtiidjkhkcckmkaaGreatDoor

/- Layer 4: the search. -/
namespace Go.Proofs.YtiidjkhkcckmkaaGreatDoor
set_option linter.unusedSimpArgs false
set_option linter.unusedVariables false
open Go.RowKit Go.Lib
theorem row_parts (k : Nat) (hk : k < 374) : ∃ h : k < Dcp.T.length, (rowB k).size = 25 ∧ Dcp.numF ((rowB k).data.toList.take 4) = Dcp.T[k].1 ∧ Dcp.madeF (rowB k).data.toList 4 0 = Dcp.T[k].2 := by
  have h : k < Dcp.T.length := by rw [Dcp.rows]; exact hk
  obtain ⟨h1, h2, h3⟩ := Dcp.okRow_parts (Dcp.okAll_at rowS_ok k h)
  rw [← rowB_list] at h1 h2 h3
  exact ⟨h, by simpa using h1, h2, h3⟩
theorem cmp_any (a b : Int) (w : World) : Calls Tryz.prog 151 #[.int .i64 a, .int .i64 b] w fun e w' => e = .returned (.int .i64 (Lib.compareInt a b)) ∧ w = w' :=
  (Tryz.cmp_Compare_int a b w).mono fun _ _ h => ⟨h.1, h.2.symm⟩
set_option maxHeartbeats 800000 in
theorem side_find (r : Int) (k : Nat) (hk : k < 374) (x : Int) (hx : (Dcp.T[k]'(by rw [Dcp.rows]; exact hk)).1 = x) (b : Nat) (w : World) (hc : w.cell? ⟨b, 0, none⟩ = some (.int .i64 r)) :
    Calls Tryz.prog 184 #[.int .i64 k, .pointer (some ⟨b, 0, none⟩)] w fun e w' => e = .returned (.int .i64 (Lib.compareInt r x)) ∧ ∃ n, w' = w.drewN n := by
  obtain ⟨h, hsz, hn, _⟩ := row_parts k hk
  have h4 : 4 ≤ (rowB k).size := by omega
  have h100 : (rowB k).size ≤ 100 := by omega
  rw [hx] at hn
  have hrow := Lib.hid (row_any k hk)
  have hnum := number_any (rowB k) h4 h100
  rw [hn] at hnum
  replace hnum := Lib.hid hnum
  obtain ⟨s, hs⟩ : ∃ s, rowB k = s := ⟨_, rfl⟩
  rw [hs] at hrow hnum
  clear hs hn hsz h4 h100 hx
  go_enter Tryz.func184, Tryz.ntmps184
  go_wp2_with fail
  go_quiet ((first | (go_at_call 186; exact quiet_mine (hrow.out _)) | (go_at_call 185; exact quiet_mine (hnum.out _)) | (go_at_call 151; exact quiet_mine (cmp_any _ _ _))))
  go_wp2_with fail
  go_ret
  exact ⟨rfl, _, rfl⟩
theorem cmp_pos (a b : Int) : 0 < Lib.compareInt a b ↔ b < a := by unfold Lib.compareInt; split <;> (try split) <;> omega
theorem cmp_zero (a b : Int) : Lib.compareInt a b = 0 ↔ a = b := by unfold Lib.compareInt; split <;> (try split) <;> omega
def FindRes (r : Int) (w : World) (e : Ending) (w' : World) : Prop :=
  e = .returned (.tuple #[.int .i64 (Lk.pos Dcp.T r : Int), .bool (Lk.look Dcp.T r).isSome]) ∧ ∃ n, w' = w.drewN n
set_option maxHeartbeats 1600000 in
theorem sfind_any (r : Int) (b : Nat) (w : World) (hc : w.cell? ⟨b, 0, none⟩ = some (.int .i64 r)) :
    Calls Tryz.prog 183 #[.int .i64 374, .func (.func 184) #[] #[.pointer (some ⟨b, 0, none⟩)]] w (FindRes r w) := by
  have hpl := Lk.pos_le Dcp.T r
  rw [Dcp.rows] at hpl
  obtain ⟨p, hp⟩ : ∃ p, Lk.pos Dcp.T r = p := ⟨_, rfl⟩
  rw [hp] at hpl
  replace hp := Lib.hid hp
  replace hc := Lib.hid hc
  go_enter Tryz.func183, Tryz.ntmps183
  go_wp2_with fail
  go_loopg [4, 6] 374 (fun g i j wr => ∃ x y : Nat, i = .int .i64 x ∧ j = .int .i64 y ∧ x ≤ p ∧ p ≤ y ∧ y ≤ 374 ∧ g = y - x ∧ ∃ d, wr = w.drewN d)
  case atStart => exact ⟨0, 374, rfl, rfl, Nat.zero_le _, hpl, Nat.le_refl _, rfl, 0, rfl⟩
  case round =>
    obtain ⟨x, y, rfl, rfl, hx, hy, hyl, rfl, d, rfl⟩ := hrel
    by_cases hlt : x < y
    · have hlt' : (x : Int) < (y : Int) := by omega
      have hk : (x + y) / 2 < 374 := by omega
      obtain ⟨q, hq⟩ : ∃ q, (Dcp.T[(x + y) / 2]'(by rw [Dcp.rows]; exact hk)).1 = q := ⟨_, rfl⟩
      have hpos := Lk.pos_lt_iff Dcp.up r ((x + y) / 2) (by rw [Dcp.rows]; exact hk)
      rw [hq, hp.out] at hpos
      have hside := Lib.hid (side_find r _ hk q hq b (w.drewN d) (drewN_cell d hc.out))
      replace hq := Lib.hid hq
      have hcp := cmp_pos r q
      obtain ⟨c, hcc⟩ : ∃ c, Lib.compareInt r q = c := ⟨_, rfl⟩
      rw [hcc] at hside hcp
      clear hcc
      by_cases hB : q < r
      · have hkp := hpos.1 hB
        have hv : 0 < c := hcp.2 hB
        clear hpos hcp
        go_wp2_with fail
        refine hside.out.mono ?_
        rintro e w1 ⟨rfl, n, rfl⟩
        go_wp2_with fail
        go_roundg (y - ((x + y) / 2 + 1))
        case measure => omega
        case rel => exact ⟨(x + y) / 2 + 1, y, by go_num, rfl, by omega, hy, hyl, rfl, _, rfl⟩
      · have hkp : ¬ (x + y) / 2 < p := fun h => hB (hpos.2 h)
        have hv : decide (0 < c) = false := decide_eq_false fun h => hB (hcp.1 h)
        clear hpos hcp
        go_wp2_with fail
        refine hside.out.mono ?_
        rintro e w1 ⟨rfl, n, rfl⟩
        go_wp2_with fail
        go_roundg ((x + y) / 2 - x)
        case measure => omega
        case rel => exact ⟨x, (x + y) / 2, rfl, by go_num, hx, by omega, by omega, rfl, _, rfl⟩
    · obtain rfl : x = p := by omega
      have hlt' : decide ((x : Int) < (y : Int)) = false := by simp; omega
      by_cases hxn : x < 374
      · have hxn' : (x : Int) < 374 := by omega
        have hxT : x < Dcp.T.length := by rw [Dcp.rows]; exact hxn
        obtain ⟨q, hq⟩ : ∃ q, (Dcp.T[x]'hxT).1 = q := ⟨_, rfl⟩
        have hside := Lib.hid (side_find r _ hxn q hq b (w.drewN d) (drewN_cell d hc.out))
        have hcz := cmp_zero r q
        obtain ⟨c, hcc⟩ : ∃ c, Lib.compareInt r q = c := ⟨_, rfl⟩
        rw [hcc] at hside hcz
        clear hcc
        by_cases hA : r = q
        · have hv : c = 0 := hcz.2 hA
          have hlk := Lk.look_yes Dcp.up r (by rw [hp.out]; exact hxT) (by simp only [hp.out]; rw [hq, hA])
          subst hv
          replace hlk := Lib.hid hlk
          replace hq := Lib.hid hq
          clear hcz
          go_wp2_with fail
          refine hside.out.mono ?_
          rintro e w1 ⟨rfl, n, rfl⟩
          go_wp2_with fail
          go_ret2
          exact ⟨by rw [hp.out, hlk.out]; rfl, _, rfl⟩
        · have hv : (c == 0) = false := beq_eq_false_iff_ne.2 fun h => hA (hcz.1 h)
          have hlk := Lk.look_no Dcp.up r (fun _ => by simp only [hp.out]; rw [hq]; exact fun h => hA h.symm)
          replace hlk := Lib.hid hlk
          replace hq := Lib.hid hq
          clear hcz
          go_wp2_with fail
          refine hside.out.mono ?_
          rintro e w1 ⟨rfl, n, rfl⟩
          go_wp2_with fail
          go_ret2
          exact ⟨by rw [hp.out, hlk.out]; rfl, _, rfl⟩
      · have hxn' : decide ((x : Int) < 374) = false := by simp; omega
        have hlk := Lk.look_no Dcp.up r (fun h => absurd h (by rw [hp.out, Dcp.rows]; omega))
        replace hlk := Lib.hid hlk
        go_wp2_with fail
        go_ret2
        exact ⟨by rw [hp.out, hlk.out]; rfl, _, rfl⟩
end Go.Proofs.YtiidjkhkcckmkaaGreatDoor

/- Layer 4: Full and Is. -/
namespace Go.Proofs.YtiidjkhkcckmkaaGreatDoor
set_option linter.unusedSimpArgs false
set_option linter.unusedVariables false
open Go.RowKit Go.Lib
def FindAll (r : Int) (w : World) (e : Ending) (w' : World) : Prop :=
  ∃ s : ByteArray, e = .returned (.tuple #[.string s, .bool (Lk.look Dcp.T r).isSome]) ∧ (∀ p, Lk.look Dcp.T r = some p → s.size = 25 ∧ Dcp.madeF s.data.toList 4 0 = p) ∧ Below w.heap.size w w'
set_option maxHeartbeats 800000 in
theorem dfind_any (r : Int) (w : World) :
    Calls Tryz.prog 162 #[.int .i64 r] w (FindAll r w) := by
  cases hlk : Lk.look Dcp.T r with
  | none =>
    replace hlk := Lib.hid hlk
    go_enter Tryz.func162, Tryz.ntmps162
    go_wp2_with fail
    refine (sfind_any r w.heap.size _ (by simp)).mono ?_
    rintro e w1 ⟨rfl, n, rfl⟩
    rw [hlk.out]
    go_wp2_with fail
    go_ret2
    exact ⟨⟨#[]⟩, by rw [hlk.out]; rfl, (fun p h => by rw [hlk.out] at h; cases h), (below_new _ _).trans ((drewN_below _ _).mono (by simp))⟩
  | some p =>
    obtain ⟨hpn, hkey, hv⟩ := Lk.look_some Dcp.up hlk
    obtain ⟨k, hk⟩ : ∃ k, Lk.pos Dcp.T r = k := ⟨_, rfl⟩
    have hk374 : k < 374 := by rw [← hk, ← Dcp.rows]; exact hpn
    obtain ⟨_, hsz, _, hmd⟩ := row_parts k hk374
    simp only [hk] at hv
    rw [hv] at hmd
    have hrow := Lib.hid (row_any k hk374)
    replace hsz := Lib.hid hsz
    replace hmd := Lib.hid hmd
    replace hlk := Lib.hid hlk
    clear hv hkey hpn
    go_enter Tryz.func162, Tryz.ntmps162
    replace hk := Lib.hid hk
    go_wp2_with fail
    refine (sfind_any r w.heap.size _ (by simp)).mono ?_
    rintro e w1 ⟨rfl, n, rfl⟩
    rw [hlk.out, hk.out]
    go_wp2_with fail
    refine (hrow.out _).mono ?_
    rintro e w1 ⟨rfl, rfl⟩
    go_wp2_with fail
    go_ret2
    exact ⟨rowB k, by rw [hlk.out]; rfl, (fun q h => by rw [hlk.out] at h; cases h; exact ⟨hsz.out, hmd.out⟩), (below_new _ _).trans ((drewN_below _ _).mono (by simp))⟩
theorem syllable_any (r : Int) (w : World) :
    Calls Tryz.prog 159 #[.int .i64 r] w fun e w' => e = .returned (.bool (decide (44032 ≤ r) && decide (r ≤ 55203))) ∧ w = w' := by
  by_cases h1 : 44032 ≤ r
  · by_cases h2 : r ≤ 55203
    all_goals
      go_enter Tryz.func159, Tryz.ntmps159
      go_wp2_with fail
      go_ret
      exact ⟨by simp [h1, h2], rfl⟩
  · have h1' : decide (44032 ≤ r) = false := by simpa using h1
    go_enter Tryz.func159, Tryz.ntmps159
    go_wp2_with fail
    go_ret
    exact ⟨by simp [h1], rfl⟩
theorem wide_any (r : Int) (w : World) :
    Calls Tryz.prog 161 #[.int .i64 r] w fun e w' => e = .returned (.bool (decide (65281 ≤ r) && decide (r ≤ 65374))) ∧ w = w' := by
  by_cases h1 : 65281 ≤ r
  · by_cases h2 : r ≤ 65374
    all_goals
      go_enter Tryz.func161, Tryz.ntmps161
      go_wp2_with fail
      go_ret
      exact ⟨by simp [h1, h2], rfl⟩
  · have h1' : decide (65281 ≤ r) = false := by simpa using h1
    go_enter Tryz.func161, Tryz.ntmps161
    go_wp2_with fail
    go_ret
    exact ⟨by simp [h1], rfl⟩
set_option maxHeartbeats 1600000 in
theorem letters_any (s : Int) (h0 : 0 ≤ s) (h1 : s < 11172) (w : World) :
    Calls Tryz.prog 160 #[.int .i64 s] w fun e w' => ∃ v, e = .returned v ∧ OwnI w.heap.size v (Dcp.sylL s) w' ∧ Below w.heap.size w w' := by
  obtain ⟨i0, hi, hz0, hz1, hz2⟩ := info_parts info_i
  by_cases ht : s % 28 = 0
  · have hsl : Dcp.sylL s = [0x1100 + s / 588, 0x1161 + s % 588 / 28] := by unfold Dcp.sylL; rw [if_pos ht]
    replace hsl := Lib.hid hsl
    go_enter Tryz.func160, Tryz.ntmps160
    go_wp2_with fail
    go_ret
    exact ⟨_, rfl, ownI_cast (ownI_lit w.heap.size w [4352 + s / 588, 4449 + s % 588 / 28] _ w.heap.size 2 rfl (Nat.le_refl _) rfl rfl (by unfold maxLen; omega)) hsl.out.symm, below_new _ _⟩
  · have hsl : Dcp.sylL s = [0x1100 + s / 588, 0x1161 + s % 588 / 28] ++ [0x11A7 + s % 28] := by unfold Dcp.sylL; rw [if_neg ht]; rfl
    replace hsl := Lib.hid hsl
    have ht1 : 0 < s % 28 := by omega
    have ht2 : s % 28 < 28 := by omega
    obtain ⟨x, hx⟩ : ∃ x, 4352 + s / 588 = x := ⟨_, rfl⟩
    obtain ⟨y, hy⟩ : ∃ y, 4449 + s % 588 / 28 = y := ⟨_, rfl⟩
    obtain ⟨z, hz⟩ : ∃ z, 4519 + s % 28 = z := ⟨_, rfl⟩
    rw [hx, hy, hz] at hsl
    have hown := ownI_lit w.heap.size w [x, y] #[.int .i64 x, .int .i64 y] w.heap.size 2 rfl (Nat.le_refl _) rfl rfl (by unfold maxLen; omega)
    have hone := ri_src (ri_of_own (ownI_lit w.heap.size (w.alloc (.cells #[.int .i64 x, .int .i64 y] 3)) [z] #[.int .i64 z] (w.heap.size + 1) 1 (by simp) (by omega) rfl rfl (by unfold maxLen; omega)))
    have hown2 := Lib.hid (ownI_alloc hown (.cells #[.int .i64 z] 3))
    have hbel := Lib.hid (((below_new w (.cells #[.int .i64 x, .int .i64 y] 3)).alloc (by simp) (.cells #[.int .i64 z] 3)))
    clear ht hown
    go_enter Tryz.func160, Tryz.ntmps160
    go_wp2_with (at_builtin; refine wpList_append_src rfl _ _ 24 rfl w.heap.size 3 i0 (.int .i64 0) 8 Tryz.underlying24 hi hz0 hz1 hz2 rfl _ _ _ rfl hown2.out _ _ rfl hone (oneCellI [z]) (by unfold maxLen; simp) (by simp) hbel.out.size ?_; intro v5 w5 hown5 hgrow5)
    have hown6 := ownI_of_row (l := [x, y] ++ [z]) hown5 (by simp) (by simp)
    have hbel6 := below_row hbel.out hgrow5 hbel.out.size hown2.out (Nat.le_refl _)
    go_ret
    exact ⟨_, rfl, ownI_cast hown6 hsl.out.symm, hbel6⟩
def FullRes (l : List Int) (w : World) (e : Ending) (w' : World) : Prop := ∃ v, e = .returned v ∧ OwnI w.heap.size v l w' ∧ Below w.heap.size w w'
set_option maxHeartbeats 1600000 in
theorem full_free (r : Int) (w : World) :
    Calls Tryz.prog 133 #[.int .i64 r] w (FullRes (Dcp.fullI r) w) := by
  have hsyl := syllable_any r
  have hwid := wide_any r
  by_cases h1 : 0xAC00 ≤ r ∧ r ≤ 0xD7A3
  · have hf := Dcp.full_syl h1
    obtain ⟨h1a, h1b⟩ := h1
    rw [show (decide (44032 ≤ r) && decide (r ≤ 55203)) = true by simp [h1a, h1b]] at hsyl
    have hl := letters_any (r - 44032) (by omega) (by omega)
    obtain ⟨l, hl'⟩ : ∃ l, Dcp.sylL (r - 44032) = l := ⟨_, rfl⟩
    rw [hl'] at hl hf
    replace hl := Lib.hid hl
    replace hsyl := Lib.hid hsyl
    clear hl' hwid
    rw [hf]
    clear hf
    go_enter Tryz.func133, Tryz.ntmps133
    go_wp2_with fail
    refine (hsyl.out _).mono ?_
    rintro e w1 ⟨rfl, rfl⟩
    go_wp2_with fail
    refine (hl.out _).mono ?_
    rintro e w1 ⟨v, rfl, hv, hb⟩
    replace hv := Lib.hid hv
    replace hb := Lib.hid hb
    go_wp2_with fail
    go_ret
    exact ⟨_, rfl, hv.out, hb.out⟩
  rw [show (decide (44032 ≤ r) && decide (r ≤ 55203)) = false by simp; omega] at hsyl
  by_cases h2 : 0xFF01 ≤ r ∧ r ≤ 0xFF5E
  · have hf := Dcp.full_wide h2
    obtain ⟨h2a, h2b⟩ := h2
    rw [show (decide (65281 ≤ r) && decide (r ≤ 65374)) = true by simp [h2a, h2b]] at hwid
    replace hsyl := Lib.hid hsyl
    replace hwid := Lib.hid hwid
    clear h1
    rw [hf]
    clear hf
    go_enter Tryz.func133, Tryz.ntmps133
    go_wp2_with fail
    refine (hsyl.out _).mono ?_
    rintro e w1 ⟨rfl, rfl⟩
    go_wp2_with fail
    refine (hwid.out _).mono ?_
    rintro e w1 ⟨rfl, rfl⟩
    go_wp2_with fail
    go_ret
    exact ⟨_, rfl, ownI_lit _ _ [r - 65248] _ _ 1 rfl (Nat.le_refl _) rfl rfl (by unfold maxLen; omega), below_new _ _⟩
  rw [show (decide (65281 ≤ r) && decide (r ≤ 65374)) = false by simp; omega] at hwid
  replace hsyl := Lib.hid hsyl
  replace hwid := Lib.hid hwid
  have hfind := dfind_any r
  cases hlk : Lk.look Dcp.T r with
  | none =>
    have hf : Dcp.fullI r = [r] := by unfold Dcp.fullI; rw [if_neg h1, if_neg h2, hlk]; rfl
    rw [hf]
    clear hf h1 h2
    replace hlk := Lib.hid hlk
    replace hfind := Lib.hid hfind
    go_enter Tryz.func133, Tryz.ntmps133
    go_wp2_with fail
    refine (hsyl.out _).mono ?_
    rintro e w1 ⟨rfl, rfl⟩
    go_wp2_with fail
    refine (hwid.out _).mono ?_
    rintro e w1 ⟨rfl, rfl⟩
    go_wp2_with fail
    refine (hfind.out _).mono ?_
    rintro e w1 ⟨s, rfl, _, hb⟩
    rw [hlk.out]
    replace hb := Lib.hid hb
    go_wp2_with fail
    go_ret
    exact ⟨_, rfl, ownI_lit _ _ [r] _ _ 1 rfl hb.out.size rfl rfl (by unfold maxLen; omega), hb.out.alloc hb.out.size _⟩
  | some p =>
    have hf : Dcp.fullI r = p := by unfold Dcp.fullI; rw [if_neg h1, if_neg h2, hlk]; rfl
    rw [hf]
    clear hf h1 h2
    replace hlk := Lib.hid hlk
    replace hfind := Lib.hid hfind
    go_enter Tryz.func133, Tryz.ntmps133
    go_wp2_with fail
    refine (hsyl.out _).mono ?_
    rintro e w1 ⟨rfl, rfl⟩
    go_wp2_with fail
    refine (hwid.out _).mono ?_
    rintro e w1 ⟨rfl, rfl⟩
    go_wp2_with fail
    refine (hfind.out _).mono ?_
    rintro e w1 ⟨s, rfl, hs, hb⟩
    obtain ⟨hs1, hs2⟩ := hs p hlk.out
    have hmade := made_any s hs1
    rw [hs2] at hmade
    rw [hlk.out]
    replace hb := Lib.hid hb
    replace hmade := Lib.hid hmade
    clear hs1 hs2 hs
    go_wp2_with fail
    refine (hmade.out _).mono ?_
    rintro e w2 ⟨v, rfl, hv, hb2⟩
    replace hv := Lib.hid (ownI_mono hv hb.out.size)
    replace hb2 := Lib.hid (hb.out.trans (hb2.mono hb.out.size))
    go_wp2_with fail
    go_ret
    exact ⟨_, rfl, hv.out, hb2.out⟩
end Go.Proofs.YtiidjkhkcckmkaaGreatDoor

