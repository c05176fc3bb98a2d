/- Texts that stand together. -/
import Derived.Test.YtiidjkhkcckmkaaGreatDoorBasP
import Derived.Test.YtiidjkhkcckmkaaGreatDoorMthP
import Derived.KernelRfl
import Derived.Test.YtiidjkhkcckmkaaGreatDoorPaP
import Derived.Deep.LoopGhost
import Derived.Deep.DeepCutAuto
/- The document's Digit, of any layer that has it. -/
namespace Go.Proofs.YtiidjkhkcckmkaaGreatDoor
set_option linter.unusedSimpArgs false
set_option linter.unusedVariables false
open Go.RowKit Go.Lib
theorem digit_any (c : UInt8) (w : World) :
    Calls Tryz.prog 142 #[.int .u8 (c.toNat : Int)] w fun e w' => e = .returned (.int .i64 (Lk.digit c)) ∧ w = w' := by
  have hc := c.toNat_lt
  obtain ⟨n, hn⟩ : ∃ n : Nat, c.toNat = n := ⟨_, rfl⟩
  unfold Lk.digit
  rw [hn] at hc ⊢
  clear hn
  have hn0 : (n : Int) < 256 := by omega
  by_cases h : 65 ≤ n
  · have h' : 65 ≤ (n : Int) := by omega
    rw [if_pos h]
    go_enter Tryz.func142, Tryz.ntmps142
    go_wp2_with fail
    go_ret
    exact ⟨rfl, rfl⟩
  · have h' : decide (65 ≤ (n : Int)) = false := by simp; omega
    rw [if_neg h]
    go_enter Tryz.func142, Tryz.ntmps142
    go_wp2_with fail
    go_ret
    exact ⟨rfl, rfl⟩
end Go.Proofs.YtiidjkhkcckmkaaGreatDoor

/- Layer 5: the document's table and its find. -/
namespace Go.Proofs.YtiidjkhkcckmkaaGreatDoor
set_option linter.unusedSimpArgs false
set_option linter.unusedVariables false
open Go.RowKit Go.Lib
namespace Par
def scan (q : Int → Int → Int → Bool) : List UInt8 → Int → Int → Int → Int × Int × Int
  | [], _, _, _ => (0, 0, 0)
  | c :: t, v, x, y =>
    if c.toNat = 43 then scan q t 0 v y
    else if c.toNat = 61 then scan q t 0 x v
    else if c.toNat = 32 then (if q x y v = true then (x, y, v) else scan q t 0 x y)
    else scan q t (v * 16 + Lk.digit c) x y
def rowsOf : List UInt8 → Int → Int → Int → List (Int × Int × Int)
  | [], _, _, _ => []
  | c :: t, v, x, y =>
    if c.toNat = 43 then rowsOf t 0 v y
    else if c.toNat = 61 then rowsOf t 0 x v
    else if c.toNat = 32 then (x, y, v) :: rowsOf t 0 x y
    else rowsOf t (v * 16 + Lk.digit c) x y
def first (q : Int → Int → Int → Bool) : List (Int × Int × Int) → Int × Int × Int
  | [] => (0, 0, 0)
  | s :: t => if q s.1 s.2.1 s.2.2 = true then s else first q t
theorem scan_eq (q : Int → Int → Int → Bool) (bs : List UInt8) (v x y : Int) : scan q bs v x y = first q (rowsOf bs v x y) := by
  induction bs generalizing v x y with
  | nil => rfl
  | cons c t ih =>
    unfold scan rowsOf
    split
    · exact ih _ _ _
    · split
      · exact ih _ _ _
      · split
        · unfold first
          split
          · rfl
          · exact ih _ _ _
        · exact ih _ _ _
def bdd : List UInt8 → Int → Bool
  | [], _ => true
  | c :: t, v => decide (0 ≤ v) && decide (v < 1048576) && (if c.toNat = 43 ∨ c.toNat = 61 ∨ c.toNat = 32 then bdd t 0 else bdd t (v * 16 + Lk.digit c))
theorem first_join (l : List (Int × Int × Int)) (a b : Int) : (first (fun x y _ => decide (x = a ∧ y = b)) l).2.2 = (lookJ l a b).getD 0 := by
  induction l with
  | nil => rfl
  | cons s t ih =>
    unfold first lookJ
    split
    · rename_i h
      rw [if_pos (by simpa using h)]
      rfl
    · rename_i h
      rw [if_neg (by simpa using h)]
      exact ih
end Par
noncomputable def ptabCode (S : ByteArray) : Code :=
  ((Go.Code.region 0 #[{ dst := some 0, op := Go.Op.assign (Go.Operand.const (Go.Value.string { data := #[] })), type := 9, pos := "ref.go:7", after := #[], guard := none }] false).seq ((Go.Code.region 1 #[{ dst := some 0, op := Go.Op.assign (Go.Operand.const (Go.Value.string S)), type := 9, pos := "ref.go:8", after := #[], guard := none }] false).seq Go.Code.ret))
noncomputable def ptabS : ByteArray :=
  match Tryz.f193.body with
  | some (.seq _ (.seq (.region _ ops _) _)) => (match ops[0]? with
    | some o => (match o.op with | .assign (.const (.string s)) => s | _ => ⟨#[]⟩)
    | none => ⟨#[]⟩)
  | _ => ⟨#[]⟩
theorem ptabCode_is : Tryz.f193.body = some (ptabCode ptabS) := by kernel_rfl
theorem ptabS_rows : Par.rowsOf ptabS.data.toList 0 0 0 = Par.T := by decide +kernel
theorem ptabS_bdd : Par.bdd ptabS.data.toList 0 = true := by decide +kernel
theorem ptabS_size : ptabS.size ≤ 100000 := by decide +kernel
theorem ptable_any (w : World) :
    Calls Tryz.prog 193 #[] w fun e w' => e = .returned (.string ptabS) ∧ w = w' := by
  have hcode := ptabCode_is
  obtain ⟨S, hS⟩ : ∃ S, ptabS = S := ⟨_, rfl⟩
  rw [hS] at hcode ⊢
  replace hS := Lib.hid hS
  refine calls_of_wp Tryz.func193 hcode ?_
  clear hcode
  unfold ptabCode
  simp only [Tryz.ntmps193, List.size_toArray, List.length_nil, Nat.reduceSub, Array.replicate_succ,
     Array.replicate_zero, List.push_toArray, List.append_toArray, List.nil_append]
  go_wp2_with fail
  go_ret
  exact ⟨rfl, rfl⟩
def tri (p : Int × Int × Int) : Value := .tuple #[.int .i64 p.1, .int .i64 p.2.1, .int .i64 p.2.2]
theorem pdrop_cons {L : List UInt8} {k : Nat} (h : k < L.length) : L.drop k = L[k] :: L.drop (k + 1) := by rw [List.drop_eq_getElem_cons h]
def testB (a b r : Int) (x y v : Int) : Bool := if r < 0 then decide (x = a ∧ y = b) else decide (v = r)
set_option maxHeartbeats 3200000 in
theorem rpfind_any (a b r : Int) (w : World) :
    Calls Tryz.prog 173 #[.int .i64 a, .int .i64 b, .int .i64 r] w fun e w' => e = .returned (tri (Par.scan (testB a b r) ptabS.data.toList 0 0 0)) ∧ w = w' := by
  have htab := Lib.hid ptable_any
  have hsz := ptabS_size
  have hbd := ptabS_bdd
  obtain ⟨S, hS⟩ : ∃ S, ptabS = S := ⟨_, rfl⟩
  rw [hS] at htab hsz hbd ⊢
  obtain ⟨o, ho⟩ : ∃ o, Par.scan (testB a b r) S.data.toList 0 0 0 = o := ⟨_, rfl⟩
  rw [ho]
  replace hS := Lib.hid hS
  replace ho := Lib.hid ho
  replace hbd := Lib.hid hbd
  go_enter Tryz.func173, Tryz.ntmps173
  go_wp2_with fail
  refine (htab.out _).mono ?_
  rintro e w1 ⟨rfl, rfl⟩
  go_wp2_with fail
  go_loopg [10, 11, 12, 13] S.size (fun g vv vx vy vi wr => ∃ (k : Nat) (v x y : Int), k ≤ S.size ∧ vi = .int .i64 k ∧ vv = .int .i64 v ∧ vx = .int .i64 x ∧ vy = .int .i64 y ∧ wr = w ∧ g = S.size - k ∧ Hid (Par.scan (testB a b r) (S.data.toList.drop k) v x y = o) ∧ Hid (Par.bdd (S.data.toList.drop k) v = true))
  case atStart => exact ⟨0, 0, 0, 0, Nat.zero_le _, rfl, rfl, rfl, rfl, rfl, rfl, ho, hbd⟩
  case round =>
    obtain ⟨k, v, x, y, hk, rfl, rfl, rfl, rfl, rfl, rfl, hsc, hbk⟩ := hrel
    replace hsc := hsc.out
    replace hbk := hbk.out
    by_cases hlt : k < S.size
    · have hlt' : (k : Int) < (S.size : Int) := by omega
      have hdr := pdrop_cons (L := S.data.toList) (k := k) (by simpa using hlt)
      obtain ⟨c, hc⟩ : ∃ c, S[k] = c := ⟨_, rfl⟩
      rw [show S.data.toList[k]'(by simpa using hlt) = c from hc] at hdr
      rw [hdr, Par.scan] at hsc
      rw [hdr, Par.bdd] at hbk
      simp only [Bool.and_eq_true, decide_eq_true_eq] at hbk
      obtain ⟨⟨hv1, hv2⟩, hbk⟩ := hbk
      clear hdr
      by_cases h43 : c.toNat = 43
      · rw [if_pos h43] at hsc
        rw [if_pos (by omega)] at hbk
        have e1 : ((c.toNat : Int) == 43) = true := by rw [h43]; rfl
        replace hsc := Lib.hid hsc
        replace hbk := Lib.hid hbk
        clear h43
        go_wp2_with fail
        go_roundg (S.size - (k + 1))
        case measure => omega
        case rel => exact ⟨k + 1, 0, v, y, by omega, by go_num, rfl, rfl, rfl, rfl, rfl, hsc, hbk⟩
      rw [if_neg h43] at hsc
      have e1 : ((c.toNat : Int) == 43) = false := by simp; omega
      by_cases h61 : c.toNat = 61
      · rw [if_pos h61] at hsc
        rw [if_pos (by omega)] at hbk
        have e2 : ((c.toNat : Int) == 61) = true := by rw [h61]; rfl
        replace hsc := Lib.hid hsc
        replace hbk := Lib.hid hbk
        clear h61 h43
        go_wp2_with fail
        go_roundg (S.size - (k + 1))
        case measure => omega
        case rel => exact ⟨k + 1, 0, x, v, by omega, by go_num, rfl, rfl, rfl, rfl, rfl, hsc, hbk⟩
      rw [if_neg h61] at hsc
      have e2 : ((c.toNat : Int) == 61) = false := by simp; omega
      by_cases h32 : c.toNat = 32
      · rw [if_pos h32] at hsc
        rw [if_pos (by omega)] at hbk
        have e3 : ((c.toNat : Int) == 32) = true := by rw [h32]; rfl
        replace hbk := Lib.hid hbk
        clear h61 h43 h32
        unfold testB at hsc
        by_cases hr : r < 0
        · have hr2 : decide (0 ≤ r) = false := by simp; omega
          rw [if_pos hr] at hsc
          by_cases hxa : x = a
          · by_cases hyb : y = b
            · rw [if_pos (by simp [hxa, hyb])] at hsc
              subst hxa hyb hsc
              go_wp2_with fail
              exact bodyPost_ret (v := .tuple #[.int .i64 x, .int .i64 y, .int .i64 v]) (by simp [results, Tryz.results173, go_sem]) rfl ⟨rfl, rfl⟩
            · rw [if_neg (by simp [hyb])] at hsc
              have e5 : (y == b) = false := beq_eq_false_iff_ne.2 hyb
              subst hxa
              replace hsc := Lib.hid hsc
              clear hyb
              go_wp2_with fail
              go_roundg (S.size - (k + 1))
              case measure => omega
              case rel => exact ⟨k + 1, 0, x, y, by omega, by go_num, rfl, rfl, rfl, rfl, rfl, Lib.hid (by unfold testB; exact hsc.out), hbk⟩
          · rw [if_neg (by simp [hxa])] at hsc
            have e4 : (x == a) = false := beq_eq_false_iff_ne.2 hxa
            replace hsc := Lib.hid hsc
            clear hxa
            go_wp2_with fail
            go_roundg (S.size - (k + 1))
            case measure => omega
            case rel => exact ⟨k + 1, 0, x, y, by omega, by go_num, rfl, rfl, rfl, rfl, rfl, Lib.hid (by unfold testB; exact hsc.out), hbk⟩
        · have hr0 : decide (r < 0) = false := decide_eq_false hr
          have hr2 : 0 ≤ r := by omega
          rw [if_neg hr] at hsc
          by_cases hvr : v = r
          · rw [if_pos (by simp [hvr])] at hsc
            subst hvr hsc
            go_wp2_with fail
            exact bodyPost_ret (v := .tuple #[.int .i64 x, .int .i64 y, .int .i64 v]) (by simp [results, Tryz.results173, go_sem]) rfl ⟨rfl, rfl⟩
          · rw [if_neg (by simp [hvr])] at hsc
            have e5 : (v == r) = false := beq_eq_false_iff_ne.2 hvr
            replace hsc := Lib.hid hsc
            clear hvr
            go_wp2_with fail
            go_roundg (S.size - (k + 1))
            case measure => omega
            case rel => exact ⟨k + 1, 0, x, y, by omega, by go_num, rfl, rfl, rfl, rfl, rfl, Lib.hid (by unfold testB; exact hsc.out), hbk⟩
      · have e3 : ((c.toNat : Int) == 32) = false := by simp; omega
        rw [if_neg h32] at hsc
        rw [if_neg (by omega)] at hbk
        have hdb := Lk.digit_bd c
        have hd := digit_any c
        obtain ⟨d, hd'⟩ : ∃ d, Lk.digit c = d := ⟨_, rfl⟩
        rw [hd'] at hsc hbk hdb hd
        obtain ⟨hdb1, hdb2⟩ := hdb
        replace hd := Lib.hid hd
        replace hsc := Lib.hid hsc
        replace hbk := Lib.hid hbk
        clear h32 h61 h43 hd'
        go_wp2_with fail
        refine (hd.out _).mono ?_
        rintro e w1 ⟨rfl, rfl⟩
        go_wp2_with fail
        go_roundg (S.size - (k + 1))
        case measure => omega
        case rel => exact ⟨k + 1, v * 16 + d, x, y, by omega, by go_num, rfl, rfl, rfl, rfl, rfl, hsc, hbk⟩
    · obtain rfl : k = S.size := by omega
      have hlt' : decide ((S.size : Int) < (S.size : Int)) = false := by simp
      rw [List.drop_of_length_le (by simp), Par.scan] at hsc
      subst hsc
      clear ho hbk
      go_wp2_with fail
      exact bodyPost_ret (v := .tuple #[.int .i64 0, .int .i64 0, .int .i64 0]) (by simp [results, Tryz.results173, go_sem]) rfl ⟨rfl, rfl⟩
end Go.Proofs.YtiidjkhkcckmkaaGreatDoor

/- Layer 5: the document's Join and Back. -/
namespace Go.Proofs.YtiidjkhkcckmkaaGreatDoor
set_option linter.unusedSimpArgs false
set_option linter.unusedVariables false
open Go.RowKit Go.Lib
theorem rfind_join (a b : Int) (w : World) :
    Calls Tryz.prog 173 #[.int .i64 a, .int .i64 b, .int .i64 (-1)] w fun e w' => ∃ x y : Int, e = .returned (.tuple #[.int .i64 x, .int .i64 y, .int .i64 ((Par.lookJ Par.T a b).getD 0)]) ∧ w = w' := by
  refine (rpfind_any a b (-1) w).mono ?_
  rintro e w' ⟨rfl, rfl⟩
  have h : testB a b (-1) = fun x y _ => decide (x = a ∧ y = b) := by
    funext x y v
    unfold testB
    rw [if_pos (by decide)]
  rw [Par.scan_eq, ptabS_rows, h]
  exact ⟨_, _, by rw [← Par.first_join]; rfl, rfl⟩
set_option maxHeartbeats 3200000 in
theorem rjoin_no (a b : Int) (w : World) (h1 : ¬ Par.LV a b) (h2 : ¬ Par.LVT a b) :
    Calls Tryz.prog 143 #[.int .i64 a, .int .i64 b] w fun e w' => e = .returned (optI (Par.lookJ Par.T a b)) ∧ w = w' := by
  have hf := rfind_join a b
  have hpos : ∀ z, Par.lookJ Par.T a b = some z → 0 < z := fun z h => (Par.rows_bd _ (Par.lookJ_mem h)).2.2.2.2.1
  unfold Par.LV at h1
  unfold Par.LVT at h2
  obtain ⟨o, ho⟩ : ∃ o, Par.lookJ Par.T a b = o := ⟨_, rfl⟩
  rw [ho] at hf hpos ⊢
  clear ho
  obtain ⟨z, hz⟩ : ∃ z, o.getD 0 = z := ⟨_, rfl⟩
  rw [hz] at hf
  replace hf := Lib.hid hf
  have hzo : optI o = .tuple #[.int .i64 z, .bool (decide (0 < z))] := by
    cases o with
    | none => subst hz; rfl
    | some x => obtain rfl : x = z := hz; unfold optI; simp [hpos x rfl]
  rw [hzo]
  clear hzo hz hpos
  obtain ⟨s, hs⟩ : ∃ s, a - 44032 = s := ⟨_, rfl⟩
  replace hs := Lib.hid hs
  rcases Int.lt_or_le a 4352 with c | c
  · have e1 : decide (4352 ≤ a) = false := decide_eq_false (by omega)
    have e5 : decide (44032 ≤ a) = false := decide_eq_false (by omega)
    clear h1 h2 c
    go_enter Tryz.func143, Tryz.ntmps143
    go_wp2_with fail
    refine (hf.out _).mono ?_
    rintro e w1 ⟨x, y, rfl, rfl⟩
    go_wp2_with fail
    go_ret2
    exact ⟨rfl, rfl⟩
  rcases Int.lt_or_le 4370 a with d | d
  · have e1 : decide (a ≤ 4370) = false := decide_eq_false (by omega)
    rcases Int.lt_or_le a 44032 with k | k
    · have e5 : decide (44032 ≤ a) = false := decide_eq_false (by omega)
      clear h1 h2 d k
      go_enter Tryz.func143, Tryz.ntmps143
      go_wp2_with fail
      refine (hf.out _).mono ?_
      rintro e w1 ⟨x, y, rfl, rfl⟩
      go_wp2_with fail
      go_ret2
      exact ⟨rfl, rfl⟩
    rcases Int.lt_or_le 55203 a with m | m
    · have e5 : decide (a ≤ 55203) = false := decide_eq_false (by omega)
      clear h1 h2 d m
      go_enter Tryz.func143, Tryz.ntmps143
      go_wp2_with fail
      refine (hf.out _).mono ?_
      rintro e w1 ⟨x, y, rfl, rfl⟩
      go_wp2_with fail
      go_ret2
      exact ⟨rfl, rfl⟩
    have hs0 : 0 ≤ s := by have := hs.out; omega
    have hs1 : s < 11172 := by have := hs.out; omega
    by_cases q : s % 28 = 0
    · rcases Int.lt_or_le b 4520 with u | u
      · have e6 : decide (4520 ≤ b) = false := decide_eq_false (by omega)
        clear h1 h2 d u
        have hs := hs.out
        go_enter Tryz.func143, Tryz.ntmps143
        go_wp2_with fail
        refine (hf.out _).mono ?_
        rintro e w1 ⟨x, y, rfl, rfl⟩
        go_wp2_with fail
        go_ret2
        exact ⟨rfl, rfl⟩
      · have e6 : decide (b ≤ 4546) = false := decide_eq_false (by have := hs.out; omega)
        clear h1 h2 d
        have hs := hs.out
        go_enter Tryz.func143, Tryz.ntmps143
        go_wp2_with fail
        refine (hf.out _).mono ?_
        rintro e w1 ⟨x, y, rfl, rfl⟩
        go_wp2_with fail
        go_ret2
        exact ⟨rfl, rfl⟩
    · have e6 : (s % 28 == 0) = false := beq_eq_false_iff_ne.2 q
      clear h1 h2 d q
      have hs := hs.out
      go_enter Tryz.func143, Tryz.ntmps143
      go_wp2_with fail
      refine (hf.out _).mono ?_
      rintro e w1 ⟨x, y, rfl, rfl⟩
      go_wp2_with fail
      go_ret2
      exact ⟨rfl, rfl⟩
  have e5 : decide (44032 ≤ a) = false := decide_eq_false (by omega)
  rcases Int.lt_or_le b 4449 with u | u
  · have e6 : decide (4449 ≤ b) = false := decide_eq_false (by omega)
    clear h1 h2 u
    go_enter Tryz.func143, Tryz.ntmps143
    go_wp2_with fail
    refine (hf.out _).mono ?_
    rintro e w1 ⟨x, y, rfl, rfl⟩
    go_wp2_with fail
    go_ret2
    exact ⟨rfl, rfl⟩
  · have e6 : decide (b ≤ 4469) = false := decide_eq_false (by omega)
    clear h1 h2
    go_enter Tryz.func143, Tryz.ntmps143
    go_wp2_with fail
    refine (hf.out _).mono ?_
    rintro e w1 ⟨x, y, rfl, rfl⟩
    go_wp2_with fail
    go_ret2
    exact ⟨rfl, rfl⟩
theorem ret_optI {x y : Int} (h : x = y) : Ending.returned (.tuple #[.int .i64 x, .bool true]) = .returned (optI (some y)) := by rw [h]; rfl
set_option maxHeartbeats 3200000 in
theorem rjoin_any (a b : Int) (w : World) :
    Calls Tryz.prog 143 #[.int .i64 a, .int .i64 b] w fun e w' => e = .returned (optI (Par.joinI a b)) ∧ w = w' := by
  unfold Par.joinI
  by_cases h1 : Par.LV a b
  · rw [if_pos h1]
    unfold Par.LV at h1
    obtain ⟨c1, c2, c3, c4⟩ := h1
    go_enter Tryz.func143, Tryz.ntmps143
    go_wp2_with fail
    go_ret2
    exact ⟨ret_optI (by omega), rfl⟩
  rw [if_neg h1]
  by_cases h2 : Par.LVT a b
  · rw [if_pos h2]
    unfold Par.LVT at h2
    obtain ⟨c1, c2, c3, c4, c5⟩ := h2
    have e1 : decide (a ≤ 4370) = false := decide_eq_false (by omega)
    clear h1
    obtain ⟨s, hs⟩ : ∃ s, a - 44032 = s := ⟨_, rfl⟩
    have hs0 : 0 ≤ s := by omega
    have hs1 : s < 11172 := by omega
    have c3' : s % 28 = 0 := by omega
    clear c3
    go_enter Tryz.func143, Tryz.ntmps143
    go_wp2_with fail
    go_ret2
    exact ⟨ret_optI (by omega), rfl⟩
  rw [if_neg h2]
  exact rjoin_no a b w h1 h2
end Go.Proofs.YtiidjkhkcckmkaaGreatDoor

