/- Texts that stand together. -/
import Derived.Test.YtiidjkhkcckmkaaGreatDoorMthP
import Derived.Test.YtiidjkhkcckmkaaGreatDoorDeP
import Derived.Test.YtiidjkhkcckmkaaGreatDoorBasP
import Derived.Test.YtiidjkhkcckmkaaGreatDoorShelf
import Derived.Lib.ConvBytes
import Derived.Laws.BitsLemmas
import Derived.Deep.LoopGhost
import Derived.Deep.DeepCutAuto
import Derived.KernelRfl
import Derived.Deep.RegionHeld3
/- Layer 5, plain mathematics: the code's own text of pairs, in order, and a search in it. -/
namespace Go.Proofs.YtiidjkhkcckmkaaGreatDoor.Par
set_option linter.unusedSimpArgs false
set_option linter.unusedVariables false
def numAt (l : List UInt8) (k n : Nat) : Int := Dcp.numF ((l.drop (k * 15 + n * 5)).take 4)
def hexB (c : UInt8) : Bool := (decide (48 ≤ c.toNat) && decide (c.toNat ≤ 57)) || (decide (65 ≤ c.toNat) && decide (c.toNat ≤ 70))
def okRow (l : List UInt8) (s : Int × Int × Int) : Bool :=
  decide (Dcp.numF (l.take 4) = s.1) && decide (Dcp.numF ((l.drop 5).take 4) = s.2.1) && decide (Dcp.numF ((l.drop 10).take 4) = s.2.2)
  && (l.take 4).all hexB && ((l.drop 5).take 4).all hexB && ((l.drop 10).take 4).all hexB
def okAll : List UInt8 → List (Int × Int × Int) → Bool
  | l, [] => l.isEmpty
  | l, s :: t => okRow (l.take 15) s && okAll (l.drop 15) t
theorem okAll_at {l : List UInt8} {t : List (Int × Int × Int)} (h : okAll l t = true) (k : Nat) (hk : k < t.length) : okRow ((l.drop (k * 15)).take 15) t[k] = true := by
  induction t generalizing l k with
  | nil => simp at hk
  | cons s t ih =>
    simp only [okAll, Bool.and_eq_true] at h
    cases k with
    | zero => simpa using h.1
    | succ k =>
      have := ih h.2 k (by simpa using hk)
      rw [List.drop_drop] at this
      rw [show (k + 1) * 15 = 15 + k * 15 by omega]
      exact this
theorem cut4 (l : List UInt8) (k n : Nat) (hn : n < 3) : ((((l.drop (k * 15)).take 15).drop (n * 5)).take 4) = (l.drop (k * 15 + n * 5)).take 4 := by
  rw [List.drop_take, List.take_take, List.drop_drop, show min 4 (15 - n * 5) = 4 by omega]
def nth (s : Int × Int × Int) (n : Nat) : Int := if n = 0 then s.1 else if n = 1 then s.2.1 else s.2.2
theorem okRow_parts {l : List UInt8} {k : Nat} {s : Int × Int × Int} (h : okRow ((l.drop (k * 15)).take 15) s = true) (n : Nat) (hn : n < 3) :
    numAt l k n = nth s n ∧ ((l.drop (k * 15 + n * 5)).take 4).all hexB = true := by
  simp only [okRow, Bool.and_eq_true, decide_eq_true_eq] at h
  obtain ⟨⟨⟨⟨⟨h1, h2⟩, h3⟩, h4⟩, h5⟩, h6⟩ := h
  have c0 := cut4 l k 0 (by omega)
  have c1 := cut4 l k 1 (by omega)
  have c2 := cut4 l k 2 (by omega)
  simp only [Nat.zero_mul, List.drop_zero, Nat.one_mul, Nat.add_zero] at c0 c1
  simp only [Nat.reduceMul] at c2
  rw [c0] at h1 h4
  rw [c1] at h2 h5
  rw [c2] at h3 h6
  unfold numAt nth
  match n, hn with
  | 0, _ => exact ⟨by simpa using h1, by simpa only [Nat.zero_mul, Nat.add_zero] using h4⟩
  | 1, _ => exact ⟨by simpa using h2, by simpa only [Nat.one_mul] using h5⟩
  | 2, _ => exact ⟨by simpa using h3, by simpa only [Nat.reduceMul] using h6⟩
def ltK (a b c d : Int) : Bool := decide (a < c) || (decide (a = c) && decide (b < d))
def cmpK (a b c d : Int) : Int := if a < c then -1 else if c < a then 1 else if b < d then -1 else if d < b then 1 else 0
theorem cmp_lt (a b c d : Int) : decide (cmpK a b c d < 0) = ltK a b c d := by
  unfold cmpK ltK
  rw [Bool.eq_iff_iff]
  simp only [decide_eq_true_eq, Bool.or_eq_true, Bool.and_eq_true]
  split
  · omega
  · split
    · omega
    · split
      · omega
      · split <;> omega
def posJ : List (Int × Int × Int) → Int → Int → Nat
  | [], _, _ => 0
  | s :: t, a, b => if ltK s.1 s.2.1 a b = true then posJ t a b + 1 else 0
def upB : List (Int × Int × Int) → Bool
  | s :: u :: t => ltK s.1 s.2.1 u.1 u.2.1 && upB (u :: t)
  | _ => true
theorem lt_trans {a b c d e f : Int} (h1 : ltK a b c d = true) (h2 : ltK c d e f = true) : ltK a b e f = true := by
  unfold ltK at *
  simp only [decide_eq_true_eq, Bool.or_eq_true, Bool.and_eq_true] at *
  omega
theorem up_tail {s : Int × Int × Int} {l : List (Int × Int × Int)} (h : upB (s :: l) = true) : upB l = true := by
  cases l with
  | nil => rfl
  | cons b t => simp only [upB, Bool.and_eq_true] at h; exact h.2
theorem up_head {s : Int × Int × Int} {l : List (Int × Int × Int)} (h : upB (s :: l) = true) : ∀ x ∈ l, ltK s.1 s.2.1 x.1 x.2.1 = true := by
  induction l generalizing s with
  | nil => intro x hx; cases hx
  | cons b t ih =>
    intro x hx
    simp only [upB, Bool.and_eq_true] at h
    rcases List.mem_cons.1 hx with rfl | hx
    · exact h.1
    · exact lt_trans h.1 (ih h.2 x hx)
theorem up_pairs {l : List (Int × Int × Int)} (h : upB l = true) : l.Pairwise (fun s t => ltK s.1 s.2.1 t.1 t.2.1 = true) := by
  induction l with
  | nil => exact .nil
  | cons s t ih => exact .cons (up_head h) (ih (up_tail h))
theorem posJ_le (l : List (Int × Int × Int)) (a b : Int) : posJ l a b ≤ l.length := by
  induction l with
  | nil => exact Nat.le_refl _
  | cons s t ih => unfold posJ; split <;> simp <;> omega
theorem posJ_lt_iff {l : List (Int × Int × Int)} (hs : upB l = true) (a b : Int) (k : Nat) (hk : k < l.length) : ltK l[k].1 l[k].2.1 a b = true ↔ k < posJ l a b := by
  induction l generalizing k with
  | nil => simp at hk
  | cons s t ih =>
    unfold posJ
    cases k with
    | zero => simp only [List.getElem_cons_zero]; split <;> simp_all
    | succ k =>
      simp only [List.getElem_cons_succ]
      have hk' : k < t.length := by simpa using hk
      rw [ih (up_tail hs) k hk']
      split
      · omega
      · rename_i h
        have h1 := up_head hs t[k] (List.getElem_mem hk')
        have h3 := ih (up_tail hs) k hk'
        constructor
        · intro h4; exact absurd (lt_trans h1 (h3.2 h4)) h
        · intro h4; omega
theorem lookJ_yes {l : List (Int × Int × Int)} (hs : upB l = true) (a b : Int) (hp : posJ l a b < l.length) (h1 : l[posJ l a b].1 = a) (h2 : l[posJ l a b].2.1 = b) : lookJ l a b = some l[posJ l a b].2.2 := by
  refine lookJ_of_mem ((up_pairs hs).imp fun {s t} h e => ?_) ?_
  · unfold ltK at h
    simp only [decide_eq_true_eq, Bool.or_eq_true, Bool.and_eq_true] at h
    omega
  · have := List.getElem_mem hp
    obtain ⟨x, hx⟩ : ∃ x, l[posJ l a b] = x := ⟨_, rfl⟩
    rw [hx] at this h1 h2 ⊢
    obtain ⟨x1, x2, x3⟩ := x
    dsimp only at *
    subst h1 h2
    exact this
theorem lookJ_no {l : List (Int × Int × Int)} (hs : upB l = true) (a b : Int) (h : ∀ hp : posJ l a b < l.length, ¬ (l[posJ l a b].1 = a ∧ l[posJ l a b].2.1 = b)) : lookJ l a b = none := by
  refine lookJ_none fun s hsm e => ?_
  obtain ⟨k, hk, rfl⟩ := List.mem_iff_getElem.1 hsm
  have hn : ¬ k < posJ l a b := fun hlt => by
    have := (posJ_lt_iff hs a b k hk).2 hlt
    rw [e.1, e.2] at this
    unfold ltK at this
    simp only [decide_eq_true_eq, Bool.or_eq_true, Bool.and_eq_true] at this
    omega
  have hp : posJ l a b < l.length := by omega
  rcases Nat.eq_or_lt_of_le (Nat.le_of_not_lt hn) with h3 | h3
  · refine h hp ?_
    simp only [h3]
    exact e
  · have h4 := List.pairwise_iff_getElem.1 (up_pairs hs) _ _ hp hk h3
    rw [e.1, e.2] at h4
    have := (posJ_lt_iff hs a b _ hp).1 h4
    omega
theorem up : upB T = true := by decide +kernel
theorem rows : T.length = 307 := by decide +kernel
theorem rows_bd : ∀ s ∈ T, 0 < s.1 ∧ s.1 < 65536 ∧ 0 < s.2.1 ∧ s.2.1 < 65536 ∧ 0 < s.2.2 ∧ s.2.2 < 65536 := by decide +kernel
end Go.Proofs.YtiidjkhkcckmkaaGreatDoor.Par

/- Layer 5: how an answer that may lack reads. -/
namespace Go.Proofs.YtiidjkhkcckmkaaGreatDoor
set_option linter.unusedSimpArgs false
set_option linter.unusedVariables false
open Go.RowKit Go.Lib
def optI : Option Int → Value
  | some x => .tuple #[.int .i64 x, .bool true]
  | none => .tuple #[.int .i64 0, .bool false]
end Go.Proofs.YtiidjkhkcckmkaaGreatDoor

/- Go's library: strconv.ParseUint of four hex digits, at base 16 and 16 bits. -/
namespace Go.Proofs.YtiidjkhkcckmkaaGreatDoor
set_option linter.unusedSimpArgs false
set_option linter.unusedVariables false
open Go.RowKit Go.Lib
theorem hex_lower : ∀ k : Fin 6, bits .or .u8 (65 + (k.1 : Int)) 32 = 97 + (k.1 : Int) := by decide +kernel
theorem hex_low (c : Nat) (h1 : 65 ≤ c) (h2 : c ≤ 70) : bits .or .u8 (c : Int) 32 = (c : Int) + 32 := by
  have h := hex_lower ⟨c - 65, by omega⟩
  rw [show 65 + ((c - 65 : Nat) : Int) = (c : Int) by omega] at h
  rw [h]
  show 97 + ((c - 65 : Nat) : Int) = _
  omega
theorem hexD_dec : ∀ k : Fin 10, Dcp.hexD (UInt8.ofNat (48 + k.1)) = (k.1 : Int) := by decide +kernel
theorem hexD_let : ∀ k : Fin 6, Dcp.hexD (UInt8.ofNat (65 + k.1)) = (k.1 : Int) + 10 := by decide +kernel
theorem hexD_low (c : UInt8) (h1 : 48 ≤ c.toNat) (h2 : c.toNat ≤ 57) : Dcp.hexD c = (c.toNat : Int) - 48 := by
  have h := hexD_dec ⟨c.toNat - 48, by omega⟩
  simp only [show 48 + (c.toNat - 48) = c.toNat by omega, UInt8.ofNat_toNat] at h
  rw [h]
  omega
theorem hexD_high (c : UInt8) (h1 : 65 ≤ c.toNat) (h2 : c.toNat ≤ 70) : Dcp.hexD c = (c.toNat : Int) - 55 := by
  have h := hexD_let ⟨c.toNat - 65, by omega⟩
  simp only [show 65 + (c.toNat - 65) = c.toNat by omega, UInt8.ofNat_toNat] at h
  rw [h]
  omega
theorem numF_hex (l : List UInt8) (h : l.all Par.hexB = true) (hl : l.length ≤ 4) : 0 ≤ Dcp.numF l ∧ Dcp.numF l < 65536 := by
  have hb := Dcp.numF_bd l hl
  refine ⟨?_, hb.2⟩
  clear hb hl
  have key : ∀ (l : List UInt8) (n : Int), 0 ≤ n → l.all Par.hexB = true → 0 ≤ l.foldl (fun n c => n * 16 + Dcp.hexD c) n := by
    intro l
    induction l with
    | nil => intro n hn _; exact hn
    | cons c t ih =>
      intro n hn h
      simp only [List.all_cons, Bool.and_eq_true] at h
      refine ih _ ?_ h.2
      have h1 := h.1
      unfold Par.hexB at h1
      simp only [Bool.or_eq_true, Bool.and_eq_true, decide_eq_true_eq] at h1
      rcases h1 with ⟨a, b⟩ | ⟨a, b⟩
      · show 0 ≤ n * 16 + Dcp.hexD c
        rw [hexD_low c a b]; omega
      · show 0 ≤ n * 16 + Dcp.hexD c
        rw [hexD_high c a b]; omega
  exact key l 0 (by omega) h
noncomputable abbrev worldU (W : World) (s : ByteArray) : World := Lib.bytesWorld W 5 s
theorem worldU_below (W : World) (s : ByteArray) : Below W.heap.size W (worldU W s) := by
  refine ⟨rfl, rfl, rfl, ?_, fun k hk => Lib.bytesWorld_at_old W _ s k hk⟩
  have := Lib.bytesWorld_size W 5 s
  show W.heap.size ≤ (Lib.bytesWorld W 5 s).heap.size
  omega
set_option maxRecDepth 100000 in
set_option maxHeartbeats 3200000 in
theorem iparse16 (t : ByteArray) (ht : t.size = 4) (hh : t.data.toList.all Par.hexB = true) (w : World) :
    Calls Tryz.prog 205 #[.string t, .int .i64 16, .int .i64 16] w fun e w' => e = .returned (.tuple #[.int .u64 (Dcp.numF t.data.toList), .nilIface]) ∧ Below w.heap.size w w' := by
  have hemp : t.toList.isEmpty = false := by
    rw [← decide_eq_emptyBytes]
    exact decide_eq_false (fun h => by rw [h] at ht; cases ht)
  have hcv := Lib.run_convert_string_bytes (P := Tryz.prog) w 9 59 5 t Tryz.underlying9 Tryz.underlying59 Tryz.underlying5
  have hB : ∀ j, j < 4 → (worldU w t).cell? ⟨w.heap.size, j, none⟩ = some (.int .u8 (t.data.toList.getD j 0).toNat) := fun j hj => Lib.bytesWorld_cell w 5 t j (by omega)
  have hbel := worldU_below w t
  unfold worldU at hB hbel
  rw [ht] at hcv
  obtain ⟨W1, hW1⟩ : ∃ W1, W1 = Lib.bytesWorld w 5 t := ⟨_, rfl⟩
  obtain ⟨cp, hcp⟩ : ∃ cp, cp = grownCap w 4 0 5 := ⟨_, rfl⟩
  rw [← hW1] at hB hbel
  rw [← hW1, ← hcp] at hcv
  clear hW1 hcp
  replace ht := Lib.hid ht
  obtain ⟨bs, hL⟩ : ∃ bs, bs = t.data.toList := ⟨_, rfl⟩
  have hLn : bs.length = 4 := by rw [hL, ← Lib.size_eq]; exact ht.out
  rw [← hL] at hB hh ⊢
  replace hL := Lib.hid hL
  replace hB := Lib.hid hB
  replace hbel := Lib.hid hbel
  replace hLn := Lib.hid hLn
  replace hh := Lib.hid hh
  have hmv : IntKind.u64.wrap (IntKind.u64.wrap 65536 - 1) = 65535 := by
    rw [IntKind.wrap_u64, IntKind.wrap_u64]
    decide
  go_enter Tryz.func205, Tryz.ntmps205
  go_wp2_with fail
  go_loop [12, 13, 101] (fun vu vn vi => ∃ (k : Nat) (a : Int), vu = .bool false ∧ vn = .int .u64 a ∧ vi = .int .i64 k ∧ k ≤ 4 ∧ Hid (a = Dcp.numF (bs.take k)))
    (fun _ _ vi => 4 - (RowKit.intOf vi).toNat)
  case atStart => exact ⟨0, 0, rfl, rfl, rfl, by omega, Lib.hid rfl⟩
  case round =>
    obtain ⟨k, a, rfl, rfl, rfl, hk, ha⟩ := hrel
    have hall : (bs.take k).all Par.hexB = true := by
      have h := hh.out
      rw [List.all_eq_true] at h ⊢
      exact fun x hx => h x (List.mem_of_mem_take hx)
    by_cases hkn : k < 4
    · have hab : 0 ≤ a ∧ a < 4096 := by
        rw [ha.out]
        have h1 := numF_hex _ hall (by rw [List.length_take]; omega)
        refine ⟨h1.1, ?_⟩
        have hl := hLn.out
        have h2 : ∀ (l : List UInt8), l.length ≤ 3 → Dcp.numF l < 4096 := by
          intro l hl
          match l, hl with
          | [], _ => decide
          | [a], _ => have := Dcp.hexD_bd a; simp only [Dcp.numF, List.foldl]; omega
          | [a, b], _ => have := Dcp.hexD_bd a; have := Dcp.hexD_bd b; simp only [Dcp.numF, List.foldl]; omega
          | [a, b, c], _ => have := Dcp.hexD_bd a; have := Dcp.hexD_bd b; have := Dcp.hexD_bd c; simp only [Dcp.numF, List.foldl]; omega
          | _ :: _ :: _ :: _ :: _, h => simp at h
        exact h2 _ (by rw [List.length_take]; omega)
      obtain ⟨a0, a1⟩ := hab
      clear hall
      have hl := hLn.out
      have hc := hB.out k hkn
      have hget : bs.getD k 0 = bs[k]'(by omega) := by simp [List.getD, List.getElem?_eq_getElem (show k < bs.length by omega)]
      have hsn : bs.take (k + 1) = bs.take k ++ [bs[k]'(by omega)] := by rw [List.take_succ_eq_append_getElem (by omega)]
      have hx : Par.hexB (bs[k]'(by omega)) = true := List.all_eq_true.1 hh.out _ (List.getElem_mem _)
      rw [hget] at hc
      generalize bs[k]'(by omega) = c at hc hsn hx
      have hnx := Dcp.numF_snoc (bs.take k) c
      rw [← hsn, ← ha.out] at hnx
      have hc256 : c.toNat < 256 := c.toNat_lt
      clear hget hsn hl
      unfold Par.hexB at hx
      simp only [Bool.or_eq_true, Bool.and_eq_true, decide_eq_true_eq] at hx
      rcases hx with ⟨d0, d1⟩ | ⟨d0, d1⟩
      · rw [hexD_low c d0 d1] at hnx
        replace hnx := Lib.hid hnx
        obtain ⟨x, hx⟩ : ∃ x : Int, (c.toNat : Int) = x := ⟨_, rfl⟩
        have hx0 : 48 ≤ x ∧ x ≤ 57 := by omega
        obtain ⟨x0, x1⟩ := hx0
        rw [hx] at hc hnx
        have hx95 : (x == 95) = false := beq_eq_false_iff_ne.2 (by omega)
        clear d0 d1 hc256 hx
        go_wp2_with fail
        refine ⟨⟨k + 1, a * 16 + (x - 48), rfl, (by first | rfl | (congr 1; omega)), (by first | rfl | (congr 1; omega)), by omega, Lib.hid hnx.out.symm⟩, by simp [RowKit.intOf]; omega⟩
      · rw [hexD_high c d0 d1] at hnx
        replace hnx := Lib.hid hnx
        have hlow := hex_low c.toNat d0 d1
        obtain ⟨x, hx⟩ : ∃ x : Int, (c.toNat : Int) = x := ⟨_, rfl⟩
        have hx0 : 65 ≤ x ∧ x ≤ 70 := by omega
        obtain ⟨x0, x1⟩ := hx0
        rw [hx] at hc hnx hlow
        have hx95 : (x == 95) = false := beq_eq_false_iff_ne.2 (by omega)
        have hx57 : decide (x ≤ 57) = false := by simp; omega
        have hlw : ∀ W, Calls Tryz.prog 208 #[.int .u8 x] W fun e w' => e = .returned (.int .u8 (x + 32)) ∧ w' = W := fun W => by
          have := Tryz.internal_strconv_lower x W
          rw [hlow] at this
          exact this
        replace hlw := Lib.hid hlw
        clear d0 d1 hc256 hx hlow
        go_wp2_with (go_at_call 208; refine (hlw.out _).mono ?_; rintro e w' ⟨rfl, rfl⟩)
        refine ⟨⟨k + 1, a * 16 + (x - 55), rfl, (by first | rfl | (congr 1; omega)), (by first | rfl | (congr 1; omega)), by omega, Lib.hid hnx.out.symm⟩, by simp [RowKit.intOf]; omega⟩
    · obtain rfl : k = 4 := by omega
      have hf := ha.out
      rw [List.take_of_length_le (by rw [hLn.out]; omega)] at hf
      replace hf := Lib.hid hf
      clear hall ha
      go_wp2_with fail
      go_ret2
      exact ⟨by rw [hf.out]; rfl, hbel.out⟩
set_option maxHeartbeats 800000 in
theorem parse16 (t : ByteArray) (ht : t.size = 4) (hh : t.data.toList.all Par.hexB = true) (w : World) :
    Calls Tryz.prog 202 #[.string t, .int .i64 16, .int .i64 16] w fun e w' => e = .returned (.tuple #[.int .u64 (Dcp.numF t.data.toList), .nilIface]) ∧ Below w.heap.size w w' := by
  have h := Lib.hid (iparse16 t ht hh w)
  clear ht hh
  go_enter Tryz.func202, Tryz.ntmps202
  go_wp2_with fail
  refine h.out.mono ?_
  rintro e w1 ⟨rfl, hb⟩
  replace hb := Lib.hid hb
  go_wp2_with fail
  go_ret2
  exact ⟨rfl, hb.out⟩
end Go.Proofs.YtiidjkhkcckmkaaGreatDoor

/- Layer 5: a number of the code's text; a pair of it. -/
namespace Go.Proofs.YtiidjkhkcckmkaaGreatDoor
set_option linter.unusedSimpArgs false
set_option linter.unusedVariables false
open Go.RowKit Go.Lib
noncomputable def numCode (S : ByteArray) : Code :=
  ((Go.Code.region 0 #[{ dst := some 4, op := Go.Op.assign (Go.Operand.const (Go.Value.int Go.IntKind.i64 0)), type := 3, pos := "pair.go:90", after := #[], guard := none }] false).seq ((Go.Code.region 1 #[{ dst := some 8, op := Go.Op.move (Go.Operand.tmp 0), type := 3, pos := "pair.go:91", after := #[], guard := none }, { dst := some 9, op := Go.Op.binOp Go.BinOp.mul 3 (Go.Operand.tmp 8) (Go.Operand.const (Go.Value.int Go.IntKind.i64 15)) 3, type := 3, pos := "pair.go:91", after := #[{ on := 0, ground := Go.Ground.data }], guard := none }, { dst := some 10, op := Go.Op.move (Go.Operand.tmp 1), type := 3, pos := "pair.go:91", after := #[], guard := none }, { dst := some 11, op := Go.Op.binOp Go.BinOp.mul 3 (Go.Operand.tmp 10) (Go.Operand.const (Go.Value.int Go.IntKind.i64 5)) 3, type := 3, pos := "pair.go:91", after := #[{ on := 2, ground := Go.Ground.data }], guard := none }, { dst := some 12, op := Go.Op.binOp Go.BinOp.add 3 (Go.Operand.tmp 9) (Go.Operand.tmp 11) 3, type := 3, pos := "pair.go:91", after := #[{ on := 1, ground := Go.Ground.data }, { on := 3, ground := Go.Ground.data }], guard := none }, { dst := some 13, op := Go.Op.slice 9 (Go.Operand.const (Go.Value.string S)) (some (Go.Operand.tmp 12)) none none, type := 9, pos := "pair.go:91", after := #[{ on := 4, ground := Go.Ground.data }], guard := none }, { dst := some 5, op := Go.Op.assign (Go.Operand.tmp 13), type := 9, pos := "pair.go:91", after := #[{ on := 5, ground := Go.Ground.data }, { on := 0, ground := Go.Ground.phase }, { on := 1, ground := Go.Ground.phase }, { on := 2, ground := Go.Ground.phase }, { on := 3, ground := Go.Ground.phase }, { on := 4, ground := Go.Ground.phase }, { on := 5, ground := Go.Ground.phase }], guard := none }] false).seq ((Go.Code.region 2 #[{ dst := some 15, op := Go.Op.move (Go.Operand.tmp 5), type := 9, pos := "pair.go:92", after := #[], guard := none }, { dst := some 16, op := Go.Op.slice 9 (Go.Operand.tmp 15) none (some (Go.Operand.const (Go.Value.int Go.IntKind.i64 4))) none, type := 9, pos := "pair.go:92", after := #[{ on := 0, ground := Go.Ground.data }], guard := none }, { dst := some 17, op := Go.Op.call { callee := Go.Callee.value (Go.Operand.func 202), args := #[Go.Operand.tmp 16, Go.Operand.const (Go.Value.int Go.IntKind.i64 16), Go.Operand.const (Go.Value.int Go.IntKind.i64 16)], argTypes := #[9, 3, 3] }, type := 214, pos := "pair.go:92", after := #[{ on := 1, ground := Go.Ground.data }], guard := none }, { dst := some 14, op := Go.Op.move (Go.Operand.tmp 17), type := 214, pos := "pair.go:92", after := #[{ on := 2, ground := Go.Ground.data }], guard := none }, { dst := some 18, op := Go.Op.extract (Go.Operand.tmp 14) 0, type := 159, pos := "pair.go:92", after := #[{ on := 3, ground := Go.Ground.data }], guard := none }, { dst := some 19, op := Go.Op.extract (Go.Operand.tmp 14) 1, type := 151, pos := "pair.go:92", after := #[{ on := 3, ground := Go.Ground.data }, { on := 6, ground := Go.Ground.gcOnly Go.Departure.lateStores }], guard := none }, { dst := some 6, op := Go.Op.assign (Go.Operand.tmp 18), type := 159, pos := "pair.go:92", after := #[{ on := 4, ground := Go.Ground.data }, { on := 2, ground := Go.Ground.chain }, { on := 0, ground := Go.Ground.phase }, { on := 1, ground := Go.Ground.phase }, { on := 2, ground := Go.Ground.phase }, { on := 3, ground := Go.Ground.phase }, { on := 4, ground := Go.Ground.phase }, { on := 5, ground := Go.Ground.textOnly Go.Departure.lateStores }], guard := none }, { dst := some 7, op := Go.Op.assign (Go.Operand.tmp 19), type := 151, pos := "pair.go:92", after := #[{ on := 5, ground := Go.Ground.data }, { on := 6, ground := Go.Ground.chain }, { on := 0, ground := Go.Ground.phase }, { on := 1, ground := Go.Ground.phase }, { on := 2, ground := Go.Ground.phase }, { on := 3, ground := Go.Ground.phase }, { on := 4, ground := Go.Ground.phase }, { on := 5, ground := Go.Ground.phase }, { on := 6, ground := Go.Ground.phase }], guard := none }] false).seq ((Go.Code.region 3 #[{ dst := some 20, op := Go.Op.move (Go.Operand.tmp 6), type := 159, pos := "pair.go:93", after := #[], guard := none }, { dst := some 21, op := Go.Op.convert 159 3 (Go.Operand.tmp 20), type := 3, pos := "pair.go:93", after := #[{ on := 0, ground := Go.Ground.data }], guard := none }, { dst := some 4, op := Go.Op.assign (Go.Operand.tmp 21), type := 3, pos := "pair.go:93", after := #[{ on := 1, ground := Go.Ground.data }, { on := 0, ground := Go.Ground.phase }, { on := 1, ground := Go.Ground.phase }], guard := none }] false).seq Go.Code.ret))))
noncomputable def numS : ByteArray :=
  match Tryz.f198.body with
  | some (.seq _ (.seq (.region _ ops _) _)) => (match ops[5]? with
    | some o => (match o.op with | .slice _ (.const (.string s)) _ _ _ => s | _ => ⟨#[]⟩)
    | none => ⟨#[]⟩)
  | _ => ⟨#[]⟩
theorem numCode_is : Tryz.f198.body = some (numCode numS) := by kernel_rfl
theorem numS_size : numS.size = 4605 := by decide +kernel
theorem numS_ok : Par.okAll numS.data.toList Par.T = true := by decide +kernel
noncomputable def numB (k n : Nat) : ByteArray := (numS.extract (k * 15 + n * 5) 4605).extract 0 4
theorem numB_list (k n : Nat) : (numB k n).data.toList = (numS.data.toList.drop (k * 15 + n * 5)).take 4 := by
  unfold numB
  rw [Lib.extract_data, Lib.extract_data, List.drop_zero, Nat.sub_zero, List.take_take]
  have h : numS.data.toList.length = 4605 := by rw [← Lib.size_eq]; exact numS_size
  rcases Nat.lt_or_ge 4605 (k * 15 + n * 5 + 4) with h1 | h1
  · rw [List.take_of_length_le (i := 4) (by rw [List.length_drop]; omega), List.take_of_length_le (by rw [List.length_drop]; omega)]
  · rw [Nat.min_eq_left (by omega)]
theorem numB_facts (k n : Nat) (hk : k < 307) (hn : n < 3) : (numB k n).size = 4 ∧ (numB k n).data.toList.all Par.hexB = true ∧ Dcp.numF (numB k n).data.toList = Par.nth (Par.T[k]'(by rw [Par.rows]; exact hk)) n := by
  obtain ⟨h1, h2⟩ := Par.okRow_parts (Par.okAll_at numS_ok k (by rw [Par.rows]; exact hk)) n hn
  refine ⟨?_, by rw [numB_list]; exact h2, by rw [numB_list]; exact h1⟩
  have h : numS.data.toList.length = 4605 := by rw [← Lib.size_eq]; exact numS_size
  rw [Lib.size_eq, numB_list, List.length_take, List.length_drop, h]
  omega
set_option maxHeartbeats 800000 in
theorem number_is (k n : Nat) (hk : k < 307) (hn : n < 3) (x : Int) (hx : Par.nth (Par.T[k]'(by rw [Par.rows]; exact hk)) n = x) (w : World) :
    Calls Tryz.prog 198 #[.int .i64 k, .int .i64 n] w fun e w' => e = .returned (.int .i64 x) ∧ Below w.heap.size w w' := by
  obtain ⟨h4, hh, hv⟩ := numB_facts k n hk hn
  rw [hx] at hv
  have hcall := parse16 (numB k n) h4 hh
  have hb := numF_hex _ hh (by rw [← Lib.size_eq, h4]; omega)
  rw [hv] at hcall hb
  obtain ⟨hb1, hb2⟩ := hb
  clear h4 hh hv hx
  unfold numB at hcall
  have hsz := numS_size
  have hcode := numCode_is
  obtain ⟨S, hS⟩ : ∃ S, numS = S := ⟨_, rfl⟩
  rw [hS] at hsz hcode hcall
  replace hS := Lib.hid hS
  refine calls_of_wp Tryz.func198 hcode ?_
  clear hcode
  unfold numCode
  replace hcall := Lib.hid hcall
  have hz4 : (S.extract (k * 15 + n * 5) 4605).size = 4605 - (k * 15 + n * 5) := by rw [ByteArray.size_extract, hsz]; omega
  simp only [Tryz.ntmps198, List.size_toArray, List.length_cons, List.length_nil, Nat.reduceAdd, Nat.reduceSub, Array.replicate_succ,
     Array.replicate_zero, List.push_toArray, List.append_toArray, List.nil_append, List.cons_append]
  go_wp2_with fail
  refine (hcall.out _).mono ?_
  rintro e w1 ⟨rfl, hb⟩
  replace hb := Lib.hid hb
  go_wp2_with fail
  go_ret
  exact ⟨rfl, hb.out⟩
theorem pair_is (k : Nat) (hk : k < 307) (x y : Int) (hx : (Par.T[k]'(by rw [Par.rows]; exact hk)).1 = x) (hy : (Par.T[k]'(by rw [Par.rows]; exact hk)).2.1 = y) (w : World) :
    Calls Tryz.prog 197 #[.int .i64 k] w fun e w' => e = .returned (.agg #[.int .i64 x, .int .i64 y]) ∧ Below w.heap.size w w' := by
  have h0 := Lib.hid (number_is k 0 hk (by omega) x (by rw [← hx]; rfl))
  have h1 := Lib.hid (number_is k 1 hk (by omega) y (by rw [← hy]; rfl))
  clear hx hy
  go_enter Tryz.func197, Tryz.ntmps197
  go_wp2_with fail
  refine (h0.out _).mono ?_
  rintro e w1 ⟨rfl, hb1⟩
  replace hb1 := Lib.hid hb1
  go_wp2_with fail
  refine (h1.out _).mono ?_
  rintro e w2 ⟨rfl, hb2⟩
  have hbel := (below_in hb1.out).trans (hb2.mono (below_in hb1.out).size)
  have hk2 := blk_below (blk_below (blk_new w #[.int .i64 0, .int .i64 0] 200) hb1.out) hb2
  have c0 := blk_cell hk2 0 _ rfl
  have c1 := blk_cell hk2 1 _ rfl
  have f0 := blk_thaw hk2 0
  have f1 := blk_thaw hk2 1
  replace hk2 := Lib.hid hk2
  replace hbel := Lib.hid hbel
  clear hb2
  go_wp2_with fail
  have e1 : ((w2.setCell ⟨w.heap.size, 0, none⟩ (.int .i64 x)).setCell ⟨w.heap.size, 1, none⟩ (.int .i64 y)).cell? ⟨w.heap.size, 1, none⟩ = some (.int .i64 y) := by
    refine World.cell?_setCell_same _ _ _ (u := .int .i64 0) ?_
    rw [World.cell?_setCell_other]
    · exact c1
    · simp
  have e0 : ((w2.setCell ⟨w.heap.size, 0, none⟩ (.int .i64 x)).setCell ⟨w.heap.size, 1, none⟩ (.int .i64 y)).cell? ⟨w.heap.size, 0, none⟩ = some (.int .i64 x) := by
    rw [World.cell?_setCell_other]
    · exact World.cell?_setCell_same _ _ _ c0
    · simp
  refine bodyPost_ret (v := .agg #[.int .i64 x, .int .i64 y]) ?_ rfl ⟨rfl, (hbel.out.setCell (by simp) _).setCell (by simp) _⟩
  simp [results, Tryz.results197, go_sem, e0, e1]
theorem compare_any (a b : Int) (w : World) : Calls Tryz.prog 151 #[.int .i64 a, .int .i64 b] w fun e w' => e = .returned (.int .i64 (Lib.compareInt a b)) ∧ w = w' :=
  (Tryz.cmp_Compare_int a b w).mono fun _ _ h => ⟨h.1, h.2.symm⟩
theorem cmp_parts (a b c d : Int) : Par.cmpK a b c d = if Lib.compareInt a c = 0 then Lib.compareInt b d else Lib.compareInt a c := by
  unfold Par.cmpK Lib.compareInt
  (repeat' split) <;> omega
set_option maxHeartbeats 800000 in
theorem compares_is (a b c d : Int) (g h : Nat) (w : World) (ca : w.cell? ⟨g, 0, none⟩ = some (.int .i64 a)) (cb : w.cell? ⟨g, 1, none⟩ = some (.int .i64 b))
    (cc : w.cell? ⟨h, 0, none⟩ = some (.int .i64 c)) (cd : w.cell? ⟨h, 1, none⟩ = some (.int .i64 d)) :
    Calls Tryz.prog 201 #[.slice (some ⟨g, 0, none⟩) 2 2, .slice (some ⟨h, 0, none⟩) 2 2] w fun e w' => e = .returned (.int .i64 (Par.cmpK a b c d)) ∧ w = w' := by
  have hparts := Lib.hid (cmp_parts a b c d)
  obtain ⟨z, hz⟩ : ∃ z, Par.cmpK a b c d = z := ⟨_, rfl⟩
  rw [hz] at hparts ⊢
  replace hz := Lib.hid hz
  have h1 := Lib.hid (compare_any a c)
  have h2 := Lib.hid (compare_any b d)
  obtain ⟨p, hp⟩ : ∃ p, Lib.compareInt a c = p := ⟨_, rfl⟩
  obtain ⟨q, hq⟩ : ∃ q, Lib.compareInt b d = q := ⟨_, rfl⟩
  rw [hp] at h1 hparts
  rw [hq] at h2 hparts
  replace hp := Lib.hid hp
  replace hq := Lib.hid hq
  go_enter Tryz.func201, Tryz.ntmps201
  go_wp2_with fail
  go_loopg [11] 2 (fun g i wr => ∃ k : Nat, k ≤ 2 ∧ i = .int .i64 k ∧ g = 2 - k ∧ wr = w ∧ Hid ((0 < k → p = 0) ∧ (1 < k → q = 0)))
  case atStart => exact ⟨0, by omega, rfl, rfl, rfl, Lib.hid ⟨by omega, by omega⟩⟩
  case round =>
    obtain ⟨k, hk, rfl, rfl, rfl, hf⟩ := hrel
    match k, hk with
    | 0, _ =>
      by_cases hz0 : p = 0
      · subst hz0
        go_wp2_with fail
        refine (h1.out _).mono ?_
        rintro e w1 ⟨rfl, rfl⟩
        go_wp2_with fail
        go_roundg 1
        case measure => omega
        case rel => exact ⟨1, by omega, by go_num, rfl, rfl, Lib.hid ⟨by simp, by omega⟩⟩
      · have hne : (p == 0) = false := beq_eq_false_iff_ne.2 hz0
        have hr := hparts.out
        rw [if_neg hz0] at hr
        replace hr := Lib.hid hr
        clear hz0
        go_wp2_with fail
        refine (h1.out _).mono ?_
        rintro e w1 ⟨rfl, rfl⟩
        go_wp2_with fail
        go_ret
        exact ⟨by rw [hr.out]; rfl, rfl⟩
    | 1, _ =>
      have hp0 : p = 0 := hf.out.1 (by omega)
      have hr := hparts.out
      rw [if_pos hp0] at hr
      replace hr := Lib.hid hr
      replace hp0 := Lib.hid hp0
      by_cases hz0 : q = 0
      · subst hz0
        go_wp2_with fail
        refine (h2.out _).mono ?_
        rintro e w1 ⟨rfl, rfl⟩
        go_wp2_with fail
        go_roundg 0
        case measure => omega
        case rel => exact ⟨2, by omega, by go_num, rfl, rfl, Lib.hid ⟨fun _ => hp0.out, by simp⟩⟩
      · have hne : (q == 0) = false := beq_eq_false_iff_ne.2 hz0
        clear hz0
        go_wp2_with fail
        refine (h2.out _).mono ?_
        rintro e w1 ⟨rfl, rfl⟩
        go_wp2_with fail
        go_ret
        exact ⟨by rw [hr.out]; rfl, rfl⟩
    | 2, _ =>
      have hp0 : p = 0 := hf.out.1 (by omega)
      have hq0 : q = 0 := hf.out.2 (by omega)
      have hr := hparts.out
      rw [if_pos hp0, hq0] at hr
      replace hr := Lib.hid hr
      clear hp0 hq0
      go_wp2_with fail
      go_ret
      exact ⟨by rw [hr.out]; rfl, rfl⟩
end Go.Proofs.YtiidjkhkcckmkaaGreatDoor

/- Layer 5: the search for a pair. -/
namespace Go.Proofs.YtiidjkhkcckmkaaGreatDoor
set_option linter.unusedSimpArgs false
set_option linter.unusedVariables false
open Go.RowKit Go.Lib
set_option maxHeartbeats 800000 in
theorem before_is (a b c d : Int) (w : World) :
    Calls Tryz.prog 196 #[.agg #[.int .i64 a, .int .i64 b], .agg #[.int .i64 c, .int .i64 d]] w fun e w' => e = .returned (.bool (Par.ltK a b c d)) ∧ Below w.heap.size w w' := by
  have hb1 := blk_alloc (blk_new w #[.int .i64 a, .int .i64 b] 200) (.cells #[.int .i64 c, .int .i64 d] 200)
  have hb2 := blk_new (w.alloc (.cells #[.int .i64 a, .int .i64 b] 200)) #[.int .i64 c, .int .i64 d] 200
  rw [show (w.alloc (.cells #[.int .i64 a, .int .i64 b] 200)).heap.size = w.heap.size + 1 by simp] at hb2
  have hbel : Below w.heap.size w ((w.alloc (.cells #[.int .i64 a, .int .i64 b] 200)).alloc (.cells #[.int .i64 c, .int .i64 d] 200)) := (below_new w _).alloc (by simp) _
  have hcmp := Lib.hid fun n => compares_is a b c d w.heap.size (w.heap.size + 1) (((w.alloc (.cells #[.int .i64 a, .int .i64 b] 200)).alloc (.cells #[.int .i64 c, .int .i64 d] 200)).drewN n)
    (blk_cell (blk_drewN hb1 n) 0 _ rfl) (blk_cell (blk_drewN hb1 n) 1 _ rfl) (blk_cell (blk_drewN hb2 n) 0 _ rfl) (blk_cell (blk_drewN hb2 n) 1 _ rfl)
  have hlt := Par.cmp_lt a b c d
  obtain ⟨z, hz⟩ : ∃ z, Par.cmpK a b c d = z := ⟨_, rfl⟩
  rw [hz] at hcmp hlt
  rw [← hlt]
  replace hbel := Lib.hid hbel
  clear hb1 hb2 hz hlt
  go_enter Tryz.func196, Tryz.ntmps196
  go_wp2_with fail
  go_quiet ((go_at_call 201; exact quiet_mine (hcmp.out _)))
  go_wp2_with fail
  go_ret
  exact ⟨rfl, hbel.out.trans ((drewN_below _ _).mono hbel.out.size)⟩
def Held (a b : Int) (g : Nat) (w : World) : Prop := w.cell? ⟨g, 0, none⟩ = some (.int .i64 a) ∧ w.cell? ⟨g, 1, none⟩ = some (.int .i64 b)
theorem held_below {a b : Int} {g B : Nat} {w w' : World} (h : Held a b g w) (hb : Below B w w') (hg : g < B) : Held a b g w' := ⟨by rw [hb.cell hg]; exact h.1, by rw [hb.cell hg]; exact h.2⟩
set_option maxHeartbeats 1600000 in
theorem notBefore_is (a b : Int) (k : Nat) (hk : k < 307) (x y : Int) (hx : (Par.T[k]'(by rw [Par.rows]; exact hk)).1 = x) (hy : (Par.T[k]'(by rw [Par.rows]; exact hk)).2.1 = y)
    (g : Nat) (w : World) (hg : g < w.heap.size) (hh : Held a b g w) :
    Calls Tryz.prog 195 #[.int .i64 k, .pointer (some ⟨g, 0, none⟩)] w fun e w' => e = .returned (.bool (!(Par.ltK x y a b))) ∧ Below w.heap.size w w' := by
  have hpair := Lib.hid (pair_is k hk x y hx hy)
  have hbef := before_is x y a b
  obtain ⟨z, hz⟩ : ∃ z, Par.ltK x y a b = z := ⟨_, rfl⟩
  rw [hz] at hbef ⊢
  replace hbef := Lib.hid hbef
  clear hz hx hy
  replace hh := Lib.hid hh
  replace hg := Lib.hid hg
  go_enter Tryz.func195, Tryz.ntmps195
  go_wp2_with fail
  refine wp_region_held_drew (S := fun w' => w'.cell? ⟨g, 0, none⟩ = some (.int .i64 a) ∧ w'.cell? ⟨g, 1, none⟩ = some (.int .i64 b)) (by kernel_rfl) (hh.out) (fun hS => ?_)
  refine' wpAnyH_take (i := 0) (oi := ⟨_, _, _, _, _, _⟩) (v := _) rfl (by kernel_rfl) (by kernel_rfl) (by kernel_rfl) (fun _ _ _ h => h) (Or.inl ⟨by rfl, ?hy0⟩) hS ?rest0
  case hy0 => (intro wz hSw; (try dsimp only at hSw); go_simp; try with_reducible rfl)
  try simp only [Act.put, List.setIfInBounds_toArray, List.set_cons_zero, List.set_cons_succ]
  refine' wpAnyH_take (i := 2) (oi := ⟨_, _, _, _, _, _⟩) (v := _) rfl (by kernel_rfl) (by kernel_rfl) (by kernel_rfl) (fun _ _ _ h => h) (Or.inl ⟨by rfl, ?hy2⟩) hS ?rest2
  case hy2 => (intro wz hSw; (try dsimp only at hSw); go_simp; try with_reducible rfl)
  try simp only [Act.put, List.setIfInBounds_toArray, List.set_cons_zero, List.set_cons_succ]
  refine wpAnyH_ready (rs := [1]) (by kernel_rfl) (by simp) (AllReadyH.cons rfl (fun K hK => ?_) AllReadyH.nil)
  go_simp
  refine (hpair.out _).mono ?_
  rintro e w1 ⟨rfl, hb1⟩
  have hW1 := Lib.hid ((drewN_below w 1).trans (hb1.mono (Nat.le_refl _)))
  clear hb1
  go_wp2_with fail
  refine hK.out _ _ (held_below hh.out hW1.out hg.out) (fun hSn => ?_)
  clear hS
  have hS := hSn
  clear hSn
  clear hK K
  try simp only [Act.put, List.setIfInBounds_toArray, List.set_cons_zero, List.set_cons_succ]
  refine wpAnyH_ready (rs := [3]) (by kernel_rfl) (by simp) (AllReadyH.cons rfl (fun K hK => ?_) AllReadyH.nil)
  go_simp
  refine (hbef.out _).mono ?_
  rintro e w2 ⟨rfl, hb2⟩
  have hW2 := Lib.hid (hW1.out.trans (hb2.mono hW1.out.size))
  clear hb2
  go_wp2_with fail
  refine hK.out _ _ (held_below hh.out hW2.out hg.out) (fun hSn => ?_)
  clear hS
  have hS := hSn
  clear hSn
  clear hK K
  try simp only [Act.put, List.setIfInBounds_toArray, List.set_cons_zero, List.set_cons_succ]
  refine' wpAnyH_take (i := 4) (oi := ⟨_, _, _, _, _, _⟩) (v := _) rfl (by kernel_rfl) (by kernel_rfl) (by kernel_rfl) (fun _ _ _ h => h) (Or.inl ⟨by rfl, ?hy4⟩) hS ?rest4
  case hy4 => (intro wz hSw; (try dsimp only at hSw); go_simp; try with_reducible rfl)
  try simp only [Act.put, List.setIfInBounds_toArray, List.set_cons_zero, List.set_cons_succ]
  refine' wpAnyH_take (i := 5) (oi := ⟨_, _, _, _, _, _⟩) (v := _) rfl (by kernel_rfl) (by kernel_rfl) (by kernel_rfl) (fun _ _ _ h => h) (Or.inl ⟨by rfl, ?hy5⟩) hS ?rest5
  case hy5 => (intro wz hSw; (try dsimp only at hSw); go_simp; try with_reducible rfl)
  try simp only [Act.put, List.setIfInBounds_toArray, List.set_cons_zero, List.set_cons_succ]
  refine wpAnyH_done (by kernel_rfl) ?_ _
  all_goals go_wp2_with fail
  go_ret
  exact ⟨rfl, hW2.out⟩
set_option maxHeartbeats 1600000 in
theorem search_is (a b : Int) (g : Nat) (w : World) (hg : g < w.heap.size) (hh : Held a b g w) :
    Calls Tryz.prog 194 #[.int .i64 307, .func (.func 195) #[] #[.pointer (some ⟨g, 0, none⟩)]] w fun e w' => e = .returned (.int .i64 (Par.posJ Par.T a b : Nat)) ∧ Below w.heap.size w w' := by
  have hpl := Par.posJ_le Par.T a b
  rw [Par.rows] at hpl
  have hlt := fun k hk => Par.posJ_lt_iff Par.up a b k hk
  obtain ⟨p, hp⟩ : ∃ p, Par.posJ Par.T a b = p := ⟨_, rfl⟩
  rw [hp] at hpl hlt ⊢
  replace hlt := Lib.hid hlt
  replace hp := Lib.hid hp
  replace hh := Lib.hid hh
  replace hg := Lib.hid hg
  go_enter Tryz.func194, Tryz.ntmps194
  go_wp2_with fail
  go_loopg [5, 6] 307 (fun n i j wr => ∃ x y : Nat, i = .int .i64 x ∧ j = .int .i64 y ∧ x ≤ p ∧ p ≤ y ∧ y ≤ 307 ∧ n = y - x ∧ Below w.heap.size w wr)
  case atStart => exact ⟨0, 307, rfl, rfl, Nat.zero_le _, hpl, Nat.le_refl _, rfl, Below.refl _ _⟩
  case round =>
    obtain ⟨x, y, rfl, rfl, hx, hy, hyl, rfl, hbel⟩ := hrel
    by_cases hxy : x < y
    · have hxy' : (x : Int) < (y : Int) := by omega
      have hk : (x + y) / 2 < 307 := by omega
      have hkT : (x + y) / 2 < Par.T.length := by rw [Par.rows]; exact hk
      have hl := hlt.out _ hkT
      have hnb := notBefore_is a b _ hk _ _ rfl rfl g wr (Nat.lt_of_lt_of_le hg.out hbel.size) (held_below hh.out hbel hg.out)
      obtain ⟨z, hz⟩ : ∃ z, Par.ltK (Par.T[(x + y) / 2]'hkT).1 (Par.T[(x + y) / 2]'hkT).2.1 a b = z := ⟨_, rfl⟩
      rw [hz] at hl hnb
      replace hnb := Lib.hid hnb
      replace hbel := Lib.hid hbel
      clear hz
      cases z with
      | true =>
        have hkp := hl.1 rfl
        clear hl
        go_wp2_with fail
        refine hnb.out.mono ?_
        rintro e w1 ⟨rfl, hb⟩
        replace hb := Lib.hid (hbel.out.trans (hb.mono hbel.out.size))
        go_wp2_with fail
        go_roundg (y - ((x + y) / 2 + 1))
        case measure => omega
        case rel => exact ⟨(x + y) / 2 + 1, y, by go_num, rfl, by omega, hy, hyl, rfl, hb.out⟩
      | false =>
        have hkp : ¬ (x + y) / 2 < p := fun h => absurd (hl.2 h) (by simp)
        clear hl
        go_wp2_with fail
        refine hnb.out.mono ?_
        rintro e w1 ⟨rfl, hb⟩
        replace hb := Lib.hid (hbel.out.trans (hb.mono hbel.out.size))
        go_wp2_with fail
        go_roundg ((x + y) / 2 - x)
        case measure => omega
        case rel => exact ⟨x, (x + y) / 2, rfl, by go_num, hx, by omega, by omega, rfl, hb.out⟩
    · obtain rfl : x = p := by omega
      have hxy' : decide ((x : Int) < (y : Int)) = false := by simp; omega
      replace hbel := Lib.hid hbel
      go_wp2_with fail
      go_ret
      exact ⟨rfl, hbel.out⟩
theorem eqTwo (a b c d : Int) (w : World) : (Op.equalIn 10000 200 (.agg #[.int .i64 a, .int .i64 b]) (.agg #[.int .i64 c, .int .i64 d])).run Tryz.prog w = .ok (decide (a = c ∧ b = d)) w := by
  have u3 := Tryz.underlying3
  have a3 := Tryz.isAgg3
  have z3 := Tryz.sizeOf3
  rw [show (10000 : Nat) = 9999 + 1 from rfl, Op.equalIn]
  simp only [Sem.run_bind, run_underlying Tryz.underlying200, Result.andThen_ok]
  simp only [Std.Legacy.Range.forIn_eq_forIn_range', Std.Legacy.Range.size, Nat.sub_zero, Nat.add_sub_cancel, Nat.div_one, List.range'_succ, List.range'_zero, List.forIn_cons, List.forIn_nil]
  go_simp
  by_cases h1 : a = c <;> by_cases h2 : b = d <;> simp [h1, h2]
set_option maxHeartbeats 3200000 in
theorem pfind_is (a b : Int) (w : World) :
    Calls Tryz.prog 177 #[.agg #[.int .i64 a, .int .i64 b]] w fun e w' => e = .returned (optI (Par.lookJ Par.T a b)) ∧ Below w.heap.size w w' := by
  have hb0 := blk_new w #[.int .i64 a, .int .i64 b] 200
  have hheld : Held a b w.heap.size (w.alloc (.cells #[.int .i64 a, .int .i64 b] 200)) := ⟨blk_cell hb0 0 _ rfl, blk_cell hb0 1 _ rfl⟩
  have hsrch := search_is a b w.heap.size _ (by simp) hheld
  have hpl := Par.posJ_le Par.T a b
  rw [Par.rows] at hpl
  have hyes := Par.lookJ_yes Par.up a b
  have hno := Par.lookJ_no Par.up a b
  obtain ⟨p, hp⟩ : ∃ p, Par.posJ Par.T a b = p := ⟨_, rfl⟩
  simp only [hp] at hpl hyes hno hsrch
  replace hp := Lib.hid hp
  replace hsrch := Lib.hid hsrch
  replace hheld := Lib.hid hheld
  clear hb0
  by_cases hlt : p < 307
  · have hpT : p < Par.T.length := by rw [Par.rows]; exact hlt
    have hne : ((p : Int) == 307) = false := beq_eq_false_iff_ne.2 (by omega)
    have hpair := Lib.hid (pair_is p hlt _ _ rfl rfl)
    have hnum := Lib.hid (number_is p 2 hlt (by omega) _ rfl)
    replace hyes := hyes hpT
    have hno' : ¬ ((Par.T[p]'hpT).1 = a ∧ (Par.T[p]'hpT).2.1 = b) → Par.lookJ Par.T a b = none := fun h => hno fun _ => h
    unfold Par.nth at hnum
    simp only [show ¬ (2 = 0) by decide, show ¬ (2 = 1) by decide, if_false] at hnum
    obtain ⟨⟨x, y, z⟩, hr⟩ : ∃ r, Par.T[p]'hpT = r := ⟨_, rfl⟩
    simp only [hr] at hpair hnum hyes hno'
    clear hno hr
    by_cases hxy : x = a ∧ y = b
    · have hres := hyes hxy.1 hxy.2
      obtain ⟨hxa, hyb⟩ := hxy
      rw [hres]
      clear hyes hno' hres
      subst hxa hyb
      have heq := eqTwo x y x y
      rw [decide_eq_true ⟨rfl, rfl⟩] at heq
      go_enter Tryz.func177, Tryz.ntmps177
      go_wp2_with fail
      refine hsrch.out.mono ?_
      rintro e w1 ⟨rfl, hb1⟩
      have hk1 := Lib.hid (held_below hheld.out hb1 (by simp))
      have hg1 := Lib.hid (show w.heap.size < w1.heap.size from Nat.lt_of_lt_of_le (by simp) hb1.size)
      replace hb1 := Lib.hid (below_in hb1)
      go_wp2_with fail
      refine wp_region_held_drew (S := fun w' => w'.cell? ⟨w.heap.size, 0, none⟩ = some (.int .i64 x) ∧ w'.cell? ⟨w.heap.size, 1, none⟩ = some (.int .i64 y)) (by kernel_rfl) (hk1.out) (fun hS => ?_)
      refine' wpAnyH_take (i := 0) (oi := ⟨_, _, _, _, _, _⟩) (v := _) rfl (by kernel_rfl) (by kernel_rfl) (by kernel_rfl) (fun _ _ _ h => h) (Or.inl ⟨by rfl, ?hyyes0⟩) hS ?restyes0
      case hyyes0 => (intro wz hSw; (try dsimp only at hSw); go_simp; try with_reducible rfl)
      try simp only [Act.put, List.setIfInBounds_toArray, List.set_cons_zero, List.set_cons_succ]
      refine' wpAnyH_take (i := 1) (oi := ⟨_, _, _, _, _, _⟩) (v := _) rfl (by kernel_rfl) (by kernel_rfl) (by kernel_rfl) (fun _ _ _ h => h) (Or.inl ⟨by rfl, ?hyyes1⟩) hS ?restyes1
      case hyyes1 => (intro wz hSw; (try dsimp only at hSw); go_simp; try with_reducible rfl)
      try simp only [Act.put, List.setIfInBounds_toArray, List.set_cons_zero, List.set_cons_succ]
      refine' wpAnyH_take (i := 2) (oi := ⟨_, _, _, _, _, _⟩) (v := _) rfl (by kernel_rfl) (by kernel_rfl) (by kernel_rfl) (fun _ _ _ h => h) (Or.inl ⟨by rfl, ?hyyes2⟩) hS ?restyes2
      case hyyes2 => (intro wz hSw; (try dsimp only at hSw); go_simp; try with_reducible rfl)
      try simp only [Act.put, List.setIfInBounds_toArray, List.set_cons_zero, List.set_cons_succ]
      refine' wpAnyH_take (i := 3) (oi := ⟨_, _, _, _, _, _⟩) (v := _) rfl (by kernel_rfl) (by kernel_rfl) (by kernel_rfl) (fun _ _ _ h => h) (Or.inl ⟨by rfl, ?hyyes3⟩) hS ?restyes3
      case hyyes3 => (intro wz hSw; (try dsimp only at hSw); go_simp; try with_reducible rfl)
      try simp only [Act.put, List.setIfInBounds_toArray, List.set_cons_zero, List.set_cons_succ]
      refine' wpAnyH_take (i := 5) (oi := ⟨_, _, _, _, _, _⟩) (v := _) rfl (by kernel_rfl) (by kernel_rfl) (by kernel_rfl) (fun _ _ _ h => h) (Or.inl ⟨by rfl, ?hyyes5⟩) hS ?restyes5
      case hyyes5 => (intro wz hSw; (try dsimp only at hSw); go_simp; try with_reducible rfl)
      try simp only [Act.put, List.setIfInBounds_toArray, List.set_cons_zero, List.set_cons_succ]
      refine wpAnyH_ready (rs := [4]) (by kernel_rfl) (by simp) (AllReadyH.cons rfl (fun K hK => ?_) AllReadyH.nil)
      go_simp
      refine (hpair.out _).mono ?_
      rintro e w2 ⟨rfl, hb2⟩
      have hW2 := Lib.hid ((drewN_below w1 1).trans (hb2.mono (Nat.le_refl _)))
      clear hb2
      go_wp2_with fail
      refine hK.out _ _ (held_below hk1.out hW2.out hg1.out) (fun hSn => ?_)
      clear hS
      have hS := hSn
      clear hSn
      clear hK K
      try simp only [Act.put, List.setIfInBounds_toArray, List.set_cons_zero, List.set_cons_succ]
      refine' wpAnyH_take (i := 6) (oi := ⟨_, _, _, _, _, _⟩) (v := _) rfl (by kernel_rfl) (by kernel_rfl) (by kernel_rfl) (fun _ _ _ h => h) (Or.inl ⟨by rfl, ?hyyes6⟩) hS ?restyes6
      case hyyes6 => (intro wz hSw; (try dsimp only at hSw); go_simp; try with_reducible rfl)
      try simp only [Act.put, List.setIfInBounds_toArray, List.set_cons_zero, List.set_cons_succ]
      refine' wpAnyH_take (i := 7) (oi := ⟨_, _, _, _, _, _⟩) (v := _) rfl (by kernel_rfl) (by kernel_rfl) (by kernel_rfl) (fun _ _ _ h => h) (Or.inl ⟨by rfl, ?hyyes7⟩) hS ?restyes7
      case hyyes7 => (intro wz hSw; (try dsimp only at hSw); go_simp; try with_reducible rfl)
      try simp only [Act.put, List.setIfInBounds_toArray, List.set_cons_zero, List.set_cons_succ]
      refine wpAnyH_done (by kernel_rfl) ?_ _
      all_goals go_wp2_with fail
      refine (hnum.out _).mono ?_
      rintro e w3 ⟨rfl, hb3⟩
      have hW3 := Lib.hid (hb1.out.trans ((hW2.out.trans (hb3.mono hW2.out.size)).mono hb1.out.size))
      clear hb3
      go_wp2_with fail
      go_ret2
      exact ⟨rfl, hW3.out⟩
    · have hres := hno' hxy
      rw [hres]
      clear hyes hno' hres hnum
      have heq := eqTwo x y a b
      rw [decide_eq_false hxy] at heq
      clear hxy
      go_enter Tryz.func177, Tryz.ntmps177
      go_wp2_with fail
      refine hsrch.out.mono ?_
      rintro e w1 ⟨rfl, hb1⟩
      have hk1 := Lib.hid (held_below hheld.out hb1 (by simp))
      have hg1 := Lib.hid (show w.heap.size < w1.heap.size from Nat.lt_of_lt_of_le (by simp) hb1.size)
      replace hb1 := Lib.hid (below_in hb1)
      go_wp2_with fail
      refine wp_region_held_drew (S := fun w' => w'.cell? ⟨w.heap.size, 0, none⟩ = some (.int .i64 a) ∧ w'.cell? ⟨w.heap.size, 1, none⟩ = some (.int .i64 b)) (by kernel_rfl) (hk1.out) (fun hS => ?_)
      refine' wpAnyH_take (i := 0) (oi := ⟨_, _, _, _, _, _⟩) (v := _) rfl (by kernel_rfl) (by kernel_rfl) (by kernel_rfl) (fun _ _ _ h => h) (Or.inl ⟨by rfl, ?hyno0⟩) hS ?restno0
      case hyno0 => (intro wz hSw; (try dsimp only at hSw); go_simp; try with_reducible rfl)
      try simp only [Act.put, List.setIfInBounds_toArray, List.set_cons_zero, List.set_cons_succ]
      refine' wpAnyH_take (i := 1) (oi := ⟨_, _, _, _, _, _⟩) (v := _) rfl (by kernel_rfl) (by kernel_rfl) (by kernel_rfl) (fun _ _ _ h => h) (Or.inl ⟨by rfl, ?hyno1⟩) hS ?restno1
      case hyno1 => (intro wz hSw; (try dsimp only at hSw); go_simp; try with_reducible rfl)
      try simp only [Act.put, List.setIfInBounds_toArray, List.set_cons_zero, List.set_cons_succ]
      refine' wpAnyH_take (i := 2) (oi := ⟨_, _, _, _, _, _⟩) (v := _) rfl (by kernel_rfl) (by kernel_rfl) (by kernel_rfl) (fun _ _ _ h => h) (Or.inl ⟨by rfl, ?hyno2⟩) hS ?restno2
      case hyno2 => (intro wz hSw; (try dsimp only at hSw); go_simp; try with_reducible rfl)
      try simp only [Act.put, List.setIfInBounds_toArray, List.set_cons_zero, List.set_cons_succ]
      refine' wpAnyH_take (i := 3) (oi := ⟨_, _, _, _, _, _⟩) (v := _) rfl (by kernel_rfl) (by kernel_rfl) (by kernel_rfl) (fun _ _ _ h => h) (Or.inl ⟨by rfl, ?hyno3⟩) hS ?restno3
      case hyno3 => (intro wz hSw; (try dsimp only at hSw); go_simp; try with_reducible rfl)
      try simp only [Act.put, List.setIfInBounds_toArray, List.set_cons_zero, List.set_cons_succ]
      refine' wpAnyH_take (i := 5) (oi := ⟨_, _, _, _, _, _⟩) (v := _) rfl (by kernel_rfl) (by kernel_rfl) (by kernel_rfl) (fun _ _ _ h => h) (Or.inl ⟨by rfl, ?hyno5⟩) hS ?restno5
      case hyno5 => (intro wz hSw; (try dsimp only at hSw); go_simp; try with_reducible rfl)
      try simp only [Act.put, List.setIfInBounds_toArray, List.set_cons_zero, List.set_cons_succ]
      refine wpAnyH_ready (rs := [4]) (by kernel_rfl) (by simp) (AllReadyH.cons rfl (fun K hK => ?_) AllReadyH.nil)
      go_simp
      refine (hpair.out _).mono ?_
      rintro e w2 ⟨rfl, hb2⟩
      have hW2 := Lib.hid ((drewN_below w1 1).trans (hb2.mono (Nat.le_refl _)))
      clear hb2
      go_wp2_with fail
      refine hK.out _ _ (held_below hk1.out hW2.out hg1.out) (fun hSn => ?_)
      clear hS
      have hS := hSn
      clear hSn
      clear hK K
      try simp only [Act.put, List.setIfInBounds_toArray, List.set_cons_zero, List.set_cons_succ]
      refine' wpAnyH_take (i := 6) (oi := ⟨_, _, _, _, _, _⟩) (v := _) rfl (by kernel_rfl) (by kernel_rfl) (by kernel_rfl) (fun _ _ _ h => h) (Or.inl ⟨by rfl, ?hyno6⟩) hS ?restno6
      case hyno6 => (intro wz hSw; (try dsimp only at hSw); go_simp; try with_reducible rfl)
      try simp only [Act.put, List.setIfInBounds_toArray, List.set_cons_zero, List.set_cons_succ]
      refine' wpAnyH_take (i := 7) (oi := ⟨_, _, _, _, _, _⟩) (v := _) rfl (by kernel_rfl) (by kernel_rfl) (by kernel_rfl) (fun _ _ _ h => h) (Or.inl ⟨by rfl, ?hyno7⟩) hS ?restno7
      case hyno7 => (intro wz hSw; (try dsimp only at hSw); go_simp; try with_reducible rfl)
      try simp only [Act.put, List.setIfInBounds_toArray, List.set_cons_zero, List.set_cons_succ]
      refine wpAnyH_done (by kernel_rfl) ?_ _
      all_goals go_wp2_with fail
      go_ret2
      exact ⟨rfl, hb1.out.trans (hW2.out.mono hb1.out.size)⟩
  · have hres := hno fun h => absurd (show p < 307 by rw [← Par.rows]; exact h) hlt
    have hpe : p = 307 := by omega
    subst hpe
    rw [hres]
    clear hres hno hyes
    go_enter Tryz.func177, Tryz.ntmps177
    go_wp2_with fail
    refine hsrch.out.mono ?_
    rintro e w1 ⟨rfl, hb1⟩
    replace hb1 := Lib.hid (below_in hb1)
    go_wp2_with fail
    refine wp_region_held_drew (S := fun _ => True) (by kernel_rfl) (trivial) (fun hS => ?_)
    refine' wpAnyH_take (i := 0) (oi := ⟨_, _, _, _, _, _⟩) (v := _) rfl (by kernel_rfl) (by kernel_rfl) (by kernel_rfl) (fun _ _ _ h => h) (Or.inl ⟨by rfl, ?hyend0⟩) hS ?restend0
    case hyend0 => (intro wz hSw; (try dsimp only at hSw); go_simp; try with_reducible rfl)
    try simp only [Act.put, List.setIfInBounds_toArray, List.set_cons_zero, List.set_cons_succ]
    refine' wpAnyH_take (i := 1) (oi := ⟨_, _, _, _, _, _⟩) (v := _) rfl (by kernel_rfl) (by kernel_rfl) (by kernel_rfl) (fun _ _ _ h => h) (Or.inl ⟨by rfl, ?hyend1⟩) hS ?restend1
    case hyend1 => (intro wz hSw; (try dsimp only at hSw); go_simp; try with_reducible rfl)
    try simp only [Act.put, List.setIfInBounds_toArray, List.set_cons_zero, List.set_cons_succ]
    refine' wpAnyH_take (i := 2) (oi := ⟨_, _, _, _, _, _⟩) (v := _) rfl (by kernel_rfl) (by kernel_rfl) (by kernel_rfl) (fun _ _ _ h => h) (Or.inl ⟨by rfl, ?hyend2⟩) hS ?restend2
    case hyend2 => (intro wz hSw; (try dsimp only at hSw); go_simp; try with_reducible rfl)
    try simp only [Act.put, List.setIfInBounds_toArray, List.set_cons_zero, List.set_cons_succ]
    refine' wpAnyH_take (i := 3) (oi := ⟨_, _, _, _, _, _⟩) (v := undef) rfl (by kernel_rfl) (by kernel_rfl) (by kernel_rfl) (fun _ _ _ h => h) (Or.inr ⟨by rfl, rfl⟩) hS ?restend3
    try simp only [Act.put, List.setIfInBounds_toArray, List.set_cons_zero, List.set_cons_succ]
    refine' wpAnyH_take (i := 4) (oi := ⟨_, _, _, _, _, _⟩) (v := undef) rfl (by kernel_rfl) (by kernel_rfl) (by kernel_rfl) (fun _ _ _ h => h) (Or.inr ⟨by rfl, rfl⟩) hS ?restend4
    try simp only [Act.put, List.setIfInBounds_toArray, List.set_cons_zero, List.set_cons_succ]
    refine' wpAnyH_take (i := 5) (oi := ⟨_, _, _, _, _, _⟩) (v := undef) rfl (by kernel_rfl) (by kernel_rfl) (by kernel_rfl) (fun _ _ _ h => h) (Or.inr ⟨by rfl, rfl⟩) hS ?restend5
    try simp only [Act.put, List.setIfInBounds_toArray, List.set_cons_zero, List.set_cons_succ]
    refine' wpAnyH_take (i := 6) (oi := ⟨_, _, _, _, _, _⟩) (v := undef) rfl (by kernel_rfl) (by kernel_rfl) (by kernel_rfl) (fun _ _ _ h => h) (Or.inr ⟨by rfl, rfl⟩) hS ?restend6
    try simp only [Act.put, List.setIfInBounds_toArray, List.set_cons_zero, List.set_cons_succ]
    refine' wpAnyH_take (i := 7) (oi := ⟨_, _, _, _, _, _⟩) (v := _) rfl (by kernel_rfl) (by kernel_rfl) (by kernel_rfl) (fun _ _ _ h => h) (Or.inl ⟨by rfl, ?hyend7⟩) hS ?restend7
    case hyend7 => (intro wz hSw; (try dsimp only at hSw); go_simp; try with_reducible rfl)
    try simp only [Act.put, List.setIfInBounds_toArray, List.set_cons_zero, List.set_cons_succ]
    refine wpAnyH_done (by kernel_rfl) ?_ _
    all_goals go_wp2_with fail
    go_ret2
    exact ⟨rfl, hb1.out.trans ((drewN_below w1 1).mono hb1.out.size)⟩
end Go.Proofs.YtiidjkhkcckmkaaGreatDoor

/- Layer 5: Join. -/
namespace Go.Proofs.YtiidjkhkcckmkaaGreatDoor
set_option linter.unusedSimpArgs false
set_option linter.unusedVariables false
open Go.RowKit Go.Lib
theorem within_any (r f l : Int) (w : World) :
    Calls Tryz.prog 175 #[.int .i64 r, .int .i64 f, .int .i64 l] w fun e w' => e = .returned (.bool (decide (f ≤ r) && decide (r ≤ l))) ∧ w = w' := by
  by_cases h1 : f ≤ r
  · by_cases h2 : r ≤ l
    · go_enter Tryz.func175, Tryz.ntmps175
      go_wp2_with fail
      go_ret
      exact ⟨by simp [h1, h2], rfl⟩
    · have h2' : decide (r ≤ l) = false := decide_eq_false h2
      go_enter Tryz.func175, Tryz.ntmps175
      go_wp2_with fail
      go_ret
      exact ⟨by simp, rfl⟩
  · have h1' : decide (f ≤ r) = false := decide_eq_false h1
    go_enter Tryz.func175, Tryz.ntmps175
    go_wp2_with fail
    go_ret
    exact ⟨by simp, rfl⟩
def openB (r : Int) : Bool := decide (44032 ≤ r) && decide (r ≤ 55203) && decide ((r - 44032) % 28 = 0)
theorem open_any (r : Int) (w : World) :
    Calls Tryz.prog 176 #[.int .i64 r] w fun e w' => e = .returned (.bool (openB r)) ∧ w = w' := by
  have hw := within_any r 44032 55203
  unfold openB
  by_cases h1 : 44032 ≤ r ∧ r ≤ 55203
  · obtain ⟨h1a, h1b⟩ := h1
    rw [show (decide (44032 ≤ r) && decide (r ≤ 55203)) = true by simp [h1a, h1b]] at hw ⊢
    replace hw := Lib.hid hw
    obtain ⟨s, hs⟩ : ∃ s, r - 44032 = s := ⟨_, rfl⟩
    have hs0 : 0 ≤ s := by omega
    have hs1 : s < 11172 := by omega
    replace hs := Lib.hid hs
    have hr : r - 44032 = s := hs.out
    by_cases h28 : s % 28 = 0
    · rw [hr]
      go_enter Tryz.func176, Tryz.ntmps176
      go_wp2_with fail
      refine (hw.out _).mono ?_
      rintro e w1 ⟨rfl, rfl⟩
      go_wp2_with fail
      go_ret
      exact ⟨by simp [h28], rfl⟩
    · have h28' : (s % 28 == 0) = false := beq_eq_false_iff_ne.2 h28
      rw [hr]
      go_enter Tryz.func176, Tryz.ntmps176
      go_wp2_with fail
      refine (hw.out _).mono ?_
      rintro e w1 ⟨rfl, rfl⟩
      go_wp2_with fail
      go_ret
      exact ⟨by simp [h28], rfl⟩
  · rw [show (decide (44032 ≤ r) && decide (r ≤ 55203)) = false by simp; omega] at hw ⊢
    replace hw := Lib.hid hw
    clear h1
    go_enter Tryz.func176, Tryz.ntmps176
    go_wp2_with fail
    refine (hw.out _).mono ?_
    rintro e w1 ⟨rfl, rfl⟩
    go_wp2_with fail
    go_ret
    exact ⟨by simp, rfl⟩
def JoinRes (o : Option Int) (w : World) (e : Ending) (w' : World) : Prop := e = .returned (optI o) ∧ Below w.heap.size w w'
set_option maxHeartbeats 3200000 in
theorem join_any (a b : Int) (w : World) :
    Calls Tryz.prog 149 #[.int .i64 a, .int .i64 b] w (JoinRes (Par.joinI a b) w) := by
  have ha := within_any a 4352 4370
  have hb := within_any b 4449 4469
  have ho := open_any a
  have ht := within_any b 4520 4546
  have hf := pfind_is a b
  by_cases h1 : 4352 ≤ a ∧ a ≤ 4370
  · rw [show (decide (4352 ≤ a) && decide (a ≤ 4370)) = true by simp [h1]] at ha
    have hno : ¬ Par.LVT a b := by unfold Par.LVT; omega
    have hop : openB a = false := by unfold openB; simp; omega
    rw [hop] at ho
    by_cases h2 : 4449 ≤ b ∧ b ≤ 4469
    · rw [show (decide (4449 ≤ b) && decide (b ≤ 4469)) = true by simp [h2]] at hb
      have hres : Par.joinI a b = some (44032 + ((a - 4352) * 21 + b - 4449) * 28) := by
        unfold Par.joinI
        rw [if_pos (show Par.LV a b by unfold Par.LV; omega)]
        congr 1
        omega
      rw [hres]
      obtain ⟨h1a, h1b⟩ := h1
      obtain ⟨h2a, h2b⟩ := h2
      replace ha := Lib.hid ha
      replace hb := Lib.hid hb
      clear ho ht hf hres hno hop
      go_enter Tryz.func149, Tryz.ntmps149
      go_wp2_with fail
      refine (ha.out _).mono ?_
      rintro e w1 ⟨rfl, rfl⟩
      go_wp2_with fail
      refine (hb.out _).mono ?_
      rintro e w1 ⟨rfl, rfl⟩
      go_wp2_with fail
      go_ret2
      exact ⟨rfl, Below.refl _ _⟩
    · rw [show (decide (4449 ≤ b) && decide (b ≤ 4469)) = false by simp; omega] at hb
      have hres : Par.joinI a b = Par.lookJ Par.T a b := by
        unfold Par.joinI
        rw [if_neg (show ¬ Par.LV a b by unfold Par.LV; omega), if_neg hno]
      rw [hres]
      obtain ⟨o, hoo⟩ : ∃ o, Par.lookJ Par.T a b = o := ⟨_, rfl⟩
      rw [hoo] at hf ⊢
      replace ha := Lib.hid ha
      replace hb := Lib.hid hb
      replace ho := Lib.hid ho
      replace hf := Lib.hid hf
      clear ht hres hno hop hoo h1 h2
      cases o
      all_goals
        go_enter Tryz.func149, Tryz.ntmps149
        go_wp2_with fail
        refine (ha.out _).mono ?_
        rintro e w1 ⟨rfl, rfl⟩
        go_wp2_with fail
        refine (hb.out _).mono ?_
        rintro e w1 ⟨rfl, rfl⟩
        go_wp2_with fail
        refine (ho.out _).mono ?_
        rintro e w1 ⟨rfl, rfl⟩
        go_wp2_with fail
        refine (hf.out _).mono ?_
        rintro e w1 ⟨rfl, hb1⟩
        replace hb1 := Lib.hid hb1
        unfold optI
        dsimp only
        go_wp2_with fail
        go_ret2
        exact ⟨rfl, hb1.out⟩
  · rw [show (decide (4352 ≤ a) && decide (a ≤ 4370)) = false by simp; omega] at ha
    have hlv : ¬ Par.LV a b := by unfold Par.LV; omega
    by_cases hop : openB a = true
    · rw [hop] at ho
      by_cases h2 : 4520 ≤ b ∧ b ≤ 4546
      · rw [show (decide (4520 ≤ b) && decide (b ≤ 4546)) = true by simp [h2]] at ht
        unfold openB at hop
        simp only [Bool.and_eq_true, decide_eq_true_eq] at hop
        have hres : Par.joinI a b = some (a + b - 4519) := by
          unfold Par.joinI
          rw [if_neg hlv, if_pos (show Par.LVT a b by unfold Par.LVT; omega)]
        rw [hres]
        obtain ⟨⟨h1a, h1b⟩, _⟩ := hop
        obtain ⟨h2a, h2b⟩ := h2
        replace ha := Lib.hid ha
        replace ho := Lib.hid ho
        replace ht := Lib.hid ht
        clear hb hf hres hlv h1
        go_enter Tryz.func149, Tryz.ntmps149
        go_wp2_with fail
        refine (ha.out _).mono ?_
        rintro e w1 ⟨rfl, rfl⟩
        go_wp2_with fail
        refine (ho.out _).mono ?_
        rintro e w1 ⟨rfl, rfl⟩
        go_wp2_with fail
        refine (ht.out _).mono ?_
        rintro e w1 ⟨rfl, rfl⟩
        go_wp2_with fail
        go_ret2
        exact ⟨rfl, Below.refl _ _⟩
      · rw [show (decide (4520 ≤ b) && decide (b ≤ 4546)) = false by simp; omega] at ht
        have hres : Par.joinI a b = Par.lookJ Par.T a b := by
          unfold Par.joinI
          rw [if_neg hlv, if_neg (show ¬ Par.LVT a b by unfold Par.LVT; omega)]
        rw [hres]
        obtain ⟨o, hoo⟩ : ∃ o, Par.lookJ Par.T a b = o := ⟨_, rfl⟩
        rw [hoo] at hf ⊢
        replace ha := Lib.hid ha
        replace ho := Lib.hid ho
        replace ht := Lib.hid ht
        replace hf := Lib.hid hf
        clear hb hres hlv hop hoo h1 h2
        cases o
        all_goals
          go_enter Tryz.func149, Tryz.ntmps149
          go_wp2_with fail
          refine (ha.out _).mono ?_
          rintro e w1 ⟨rfl, rfl⟩
          go_wp2_with fail
          refine (ho.out _).mono ?_
          rintro e w1 ⟨rfl, rfl⟩
          go_wp2_with fail
          refine (ht.out _).mono ?_
          rintro e w1 ⟨rfl, rfl⟩
          go_wp2_with fail
          refine (hf.out _).mono ?_
          rintro e w1 ⟨rfl, hb1⟩
          replace hb1 := Lib.hid hb1
          unfold optI
          dsimp only
          go_wp2_with fail
          go_ret2
          exact ⟨rfl, hb1.out⟩
    · have hop' : openB a = false := by simpa using hop
      rw [hop'] at ho
      have hres : Par.joinI a b = Par.lookJ Par.T a b := by
        unfold Par.joinI
        rw [if_neg hlv, if_neg (show ¬ Par.LVT a b by
          unfold Par.LVT
          unfold openB at hop
          simp only [Bool.and_eq_true, decide_eq_true_eq] at hop
          omega)]
      rw [hres]
      obtain ⟨o, hoo⟩ : ∃ o, Par.lookJ Par.T a b = o := ⟨_, rfl⟩
      rw [hoo] at hf ⊢
      replace ha := Lib.hid ha
      replace ho := Lib.hid ho
      replace hf := Lib.hid hf
      clear hb ht hres hlv hop hop' hoo h1
      cases o
      all_goals
        go_enter Tryz.func149, Tryz.ntmps149
        go_wp2_with fail
        refine (ha.out _).mono ?_
        rintro e w1 ⟨rfl, rfl⟩
        go_wp2_with fail
        refine (ho.out _).mono ?_
        rintro e w1 ⟨rfl, rfl⟩
        go_wp2_with fail
        refine (hf.out _).mono ?_
        rintro e w1 ⟨rfl, hb1⟩
        replace hb1 := Lib.hid hb1
        unfold optI
        dsimp only
        go_wp2_with fail
        go_ret2
        exact ⟨rfl, hb1.out⟩
end Go.Proofs.YtiidjkhkcckmkaaGreatDoor

/- Layer 5: what is asked of pair's Join by the statements of later layers. -/
namespace Go.Proofs.YtiidjkhkcckmkaaGreatDoor
set_option linter.unusedSimpArgs false
set_option linter.unusedVariables false
open Go.RowKit Go.Lib
def JoinYes : Prop := ∀ (a b x : Int), Par.joinI a b = some x → ∀ w, Calls Tryz.prog 149 #[.int .i64 a, .int .i64 b] w fun e w' => e = .returned (.tuple #[.int .i64 x, .bool true]) ∧ Below w.heap.size w w'
def JoinNot : Prop := ∀ (a b : Int), Par.joinI a b = none → ∀ w, Calls Tryz.prog 149 #[.int .i64 a, .int .i64 b] w fun e w' => e = .returned (.tuple #[.int .i64 0, .bool false]) ∧ Below w.heap.size w w'
end Go.Proofs.YtiidjkhkcckmkaaGreatDoor

/- Layer 5: what later layers ask of pair's Join holds. -/
namespace Go.Proofs.YtiidjkhkcckmkaaGreatDoor
set_option linter.unusedSimpArgs false
set_option linter.unusedVariables false
open Go.RowKit Go.Lib
theorem joinYes : JoinYes := fun a b x h w => by
  have := join_any a b w
  rw [h] at this
  exact this
theorem joinNot : JoinNot := fun a b h w => by
  have := join_any a b w
  rw [h] at this
  exact this
end Go.Proofs.YtiidjkhkcckmkaaGreatDoor

