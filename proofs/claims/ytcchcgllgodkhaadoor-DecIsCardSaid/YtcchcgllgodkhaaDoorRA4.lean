/- Layer 1, the document's answer: Begins. -/
import Derived.Test.YtcchcgllgodkhaaDoorRA3
namespace Go.Proofs.YtcchcgllgodkhaaDoor
open Go.RowKit Go.Lib

theorem cands_len (lo hi : Nat) : (Dec.cands lo hi).length = 8 := rfl

theorem cands_cell (w : World) (lo hi : Nat) (t : TypeId) (k : Nat) (hk : k < 8) :
    (w.alloc (.cells #[.int .i64 (lo : Int), .int .i64 (hi : Int), .int .i64 128, .int .i64 2048, .int .i64 65536, .int .i64 55295, .int .i64 57344, .int .i64 1114111] t)).cell? ⟨w.heap.size, k, none⟩ = some (.int .i64 ((Dec.cands lo hi)[k]'hk)) := by
  rcases (by omega : k = 0 ∨ k = 1 ∨ k = 2 ∨ k = 3 ∨ k = 4 ∨ k = 5 ∨ k = 6 ∨ k = 7) with rfl | rfl | rfl | rfl | rfl | rfl | rfl | rfl <;> simp [Dec.cands]

theorem any_next {l : List UInt8} {lo hi n k : Nat} {x : Int} (hk : k < 8) (hx : (Dec.cands lo hi)[k]'hk = x) (h : ((Dec.cands lo hi).take k).any (Dec.candB l lo hi n) = false) (hc : Dec.candB l lo hi n x = false) :
    ((Dec.cands lo hi).take (k + 1)).any (Dec.candB l lo hi n) = false := by
  rw [List.take_succ_eq_append_getElem hk, List.any_append, h, hx]
  simp [hc]

theorem any_yes {l : List UInt8} {lo hi n k : Nat} {x : Int} (hk : k < 8) (hx : (Dec.cands lo hi)[k]'hk = x) (hc : Dec.candB l lo hi n x = true) : (Dec.cands lo hi).any (Dec.candB l lo hi n) = true :=
  List.any_eq_true.2 ⟨x, by rw [← hx]; exact List.getElem_mem hk, hc⟩

theorem cand_no1 {l : List UInt8} {lo hi n : Nat} {x : Int} (h : ¬ (lo : Int) ≤ x) : Dec.candB l lo hi n x = false := by unfold Dec.candB; simp [h]
theorem cand_no2 {l : List UInt8} {lo hi n : Nat} {x : Int} (h : ¬ x ≤ (hi : Int)) : Dec.candB l lo hi n x = false := by unfold Dec.candB; simp [h]
theorem cand_no3 {l : List UInt8} {lo hi n : Nat} {x : Int} (h : Dec.goodB x = false) : Dec.candB l lo hi n x = false := by unfold Dec.candB; simp [h]
theorem cand_no4 {l : List UInt8} {lo hi n : Nat} {x : Int} (h : ¬ (Lib.encodeRune x).length = n) : Dec.candB l lo hi n x = false := by unfold Dec.candB; simp [h]
theorem cand_no5 {l : List UInt8} {lo hi n : Nat} {x : Int} (h : ¬ (Lib.encodeRune x).take l.length = l) : Dec.candB l lo hi n x = false := by unfold Dec.candB; simp [h]
theorem cand_yes {l : List UInt8} {lo hi n : Nat} {x : Int} (h1 : (lo : Int) ≤ x) (h2 : x ≤ (hi : Int)) (h3 : Dec.goodB x = true) (h4 : (Lib.encodeRune x).length = n) (h5 : (Lib.encodeRune x).take l.length = l) : Dec.candB l lo hi n x = true := by unfold Dec.candB; simp [h1, h2, h3, h4, h5]

/-- what Begins comes to -/
def BegRes (l : List UInt8) (w : World) (e : Ending) (w' : World) : Prop := e = .returned (.bool (Dec.begL l)) ∧ Below w.heap.size w w'

set_option maxHeartbeats 3200000 in
theorem rbegins_any (s : ByteArray) (l : List UInt8) (hl : s.data.toList = l) (hm : l.length ≤ 1000) (w : World) :
    Calls Tryd.prog 21 #[.string s] w (BegRes l w) := by
  have hsz : s.size = l.length := by subst hl; rfl
  by_cases h0 : l.length = 0
  · have hB : Hid (Dec.begL l = false) := Lib.hid (by rw [List.eq_nil_of_length_eq_zero h0]; rfl)
    have hz : ((s.size : Int) == 0) = true := beq_iff_eq.2 (by omega)
    clear h0 hsz hl
    go_enter Tryd.func21, Tryd.ntmps21
    go_wp2_with fail
    go_ret
    exact ⟨by rw [hB.out]; rfl, Below.refl _ _⟩
  have hz : ((s.size : Int) == 0) = false := beq_eq_false_iff_ne.2 (by omega)
  by_cases h3 : 3 < l.length
  · have hB : Hid (Dec.begL l = false) := Lib.hid (Dec.beg4 l (by omega))
    have h3' : (3 : Int) < (s.size : Int) := by omega
    clear h3 h0 hsz hl
    go_enter Tryd.func21, Tryd.ntmps21
    go_wp2_with fail
    go_ret
    exact ⟨by rw [hB.out]; rfl, Below.refl _ _⟩
  have h3' : decide ((3 : Int) < (s.size : Int)) = false := by simp; omega
  have hpos : 0 < l.length := by omega
  obtain ⟨hs0, e0⟩ := str_get hl 0 hpos
  have hnb := nb_first hpos
  obtain ⟨x0, hx0⟩ : ∃ x0, l[0] = x0 := ⟨_, rfl⟩
  rw [hx0] at e0 hnb
  have hb0 := x0.toNat_lt
  have hb0' : (x0.toNat : Int) < 256 := by omega
  have hn4 := (head_bound x0.toNat hb0).1
  have hhead := head_any x0.toNat hb0
  have hval := value_any s l hl hpos (by omega) 0 (by decide)
  have hval2 := value_any s l hl hpos (by omega) 63 (by decide)
  unfold HRes at hhead
  obtain ⟨n, hn⟩ : ∃ n, (Dec.headN x0.toNat).1 = n := ⟨_, rfl⟩
  rw [hn] at hhead hn4
  have hnn : (Dec.headN (Dec.nb l 0)).1 = n := by rw [hnb, hn]
  have hszN : s.size ≤ 3 := by omega
  replace hhead := Lib.hid hhead
  obtain ⟨lo, hlo⟩ : ∃ lo, Dec.valN l 0 = lo := ⟨_, rfl⟩
  obtain ⟨hi, hhi⟩ : ∃ hi, Dec.valN l 63 = hi := ⟨_, rfl⟩
  rw [hlo] at hval
  rw [hhi] at hval2
  have hR : Dec.begL l = (decide (l.length < n) && (Dec.cands lo hi).any (Dec.candB l lo hi n)) := by
    rw [← Dec.begR_eq]
    unfold Dec.begR
    rw [hnn, hlo, hhi]
    have e1 : decide (l.length ≠ 0) = true := decide_eq_true h0
    have e2 : decide (l.length ≤ 3) = true := decide_eq_true (by omega)
    rw [e1, e2]
    rfl
  replace hval := Lib.hid hval
  replace hval2 := Lib.hid hval2
  clear hlo hhi hnn hn hnb hx0 h0 h3
  by_cases hlt : n ≤ l.length
  · have t1 : n ≤ s.size := by omega
    have hB : Hid (Dec.begL l = false) := Lib.hid (by rw [hR, decide_eq_false (by omega)]; rfl)
    clear hR hlt hsz hl hpos
    go_enter Tryd.func21, Tryd.ntmps21
    go_wp2_with fail
    refine (hhead.out _).mono ?_
    rintro e w1 ⟨rfl, rfl⟩
    go_wp2_with fail
    go_ret
    exact ⟨by rw [hB.out]; rfl, Below.refl _ _⟩
  · have t1 : decide (n ≤ s.size) = false := by simp; omega
    have hln : l.length < n := by omega
    rw [decide_eq_true hln, Bool.true_and] at hR
    replace hR := Lib.hid hR
    have hsn : s.size < n := by omega
    replace hsz := Lib.hid hsz
    replace hl := Lib.hid hl
    clear hlt hln hpos
    go_enter Tryd.func21, Tryd.ntmps21
    go_wp2_with fail
    refine (hhead.out _).mono ?_
    rintro e w1 ⟨rfl, rfl⟩
    go_wp2_with fail
    refine (hval.out _).mono ?_
    rintro e w1 ⟨rfl, rfl⟩
    go_wp2_with fail
    refine (hval2.out _).mono ?_
    rintro e w1 ⟨rfl, rfl⟩
    go_wp2_with fail
    have hcells := Lib.hid (cands_cell w lo hi 3)
    have hbel0 := Lib.hid (below_new w (.cells #[.int .i64 (lo : Int), .int .i64 (hi : Int), .int .i64 128, .int .i64 2048, .int .i64 65536, .int .i64 55295, .int .i64 57344, .int .i64 1114111] 3))
    obtain ⟨W, hW⟩ : ∃ W, w.alloc (.cells #[.int .i64 (lo : Int), .int .i64 (hi : Int), .int .i64 128, .int .i64 2048, .int .i64 65536, .int .i64 55295, .int .i64 57344, .int .i64 1114111] 3) = W := ⟨_, rfl⟩
    have hWs : w.heap.size < W.heap.size := by rw [← hW]; simp
    rw [hW] at hcells hbel0 ⊢
    clear hW
    go_loopg [8, 9] 8 (fun g i f wr => ∃ k : Nat, k ≤ 8 ∧ g = 8 - k ∧ i = .int .i64 k ∧ Below W.heap.size W wr ∧ Hid (((Dec.cands lo hi).take k).any (Dec.candB l lo hi n) = false))
    case atStart => exact ⟨0, by omega, rfl, rfl, Below.refl _ _, Lib.hid rfl⟩
    case round =>
      obtain ⟨k, hk, rfl, rfl, hbel, hno⟩ := hrel
      by_cases hk8 : k < 8
      · have hk8' : (k : Int) < 8 := by omega
        obtain ⟨x, hx⟩ : ∃ x, (Dec.cands lo hi)[k]'hk8 = x := ⟨_, rfl⟩
        have hcell : wr.cell? ⟨w.heap.size, k, none⟩ = some (.int .i64 x) := by rw [hbel.cell hWs, hcells.out k hk8, hx]
        replace hx := Lib.hid hx
        by_cases c1 : (lo : Int) ≤ x
        case neg =>
          have hn' := Lib.hid (any_next hk8 hx.out hno.out (cand_no1 c1))
          have c1' : decide ((lo : Int) ≤ x) = false := by simp; omega
          go_wp2_with fail
          go_roundg (8 - (k + 1))
          case measure => omega
          case rel => exact ⟨k + 1, by omega, rfl, by go_num, hbel, hn'⟩
        by_cases c2 : x ≤ (hi : Int)
        case neg =>
          have hn' := Lib.hid (any_next hk8 hx.out hno.out (cand_no2 c2))
          have c2' : decide (x ≤ (hi : Int)) = false := by simp; omega
          go_wp2_with fail
          go_roundg (8 - (k + 1))
          case measure => omega
          case rel => exact ⟨k + 1, by omega, rfl, by go_num, hbel, hn'⟩
        have hgood := rgood_any x wr
        cases hG : Dec.goodB x with
        | false =>
          have hn' := Lib.hid (any_next hk8 hx.out hno.out (cand_no3 hG))
          rw [hG] at hgood
          replace hgood := Lib.hid hgood
          clear hG
          go_wp2_with fail
          refine hgood.out.mono ?_
          rintro e w1 ⟨rfl, rfl⟩
          go_wp2_with fail
          go_roundg (8 - (k + 1))
          case measure => omega
          case rel => exact ⟨k + 1, by omega, rfl, by go_num, hbel, hn'⟩
        | true =>
          rw [hG] at hgood
          replace hgood := Lib.hid hgood
          have hform := Lib.hid (form_any x hG wr)
          replace hG := Lib.hid hG
          obtain ⟨B, hB⟩ : ∃ B : ByteArray, (⟨(Lib.encodeRune x).toArray⟩ : ByteArray) = B := ⟨_, rfl⟩
          have hF : Hid (B.data.toList = Lib.encodeRune x) := Lib.hid (by rw [← hB])
          have hBl : B.size = (Lib.encodeRune x).length := by rw [← hB]; rfl
          replace hBl := Lib.hid hBl
          unfold FormRes at hform
          rw [hB] at hform
          clear hB
          go_wp2_with fail
          refine hgood.out.mono ?_
          rintro e w1 ⟨rfl, rfl⟩
          go_wp2_with fail
          refine hform.out.mono ?_
          rintro e w2 ⟨rfl, hb2⟩
          replace hbel := Lib.hid (hbel.trans (hb2.mono hbel.size))
          clear hb2
          by_cases c4 : B.size = n
          case neg =>
            have hn' := Lib.hid (any_next hk8 hx.out hno.out (cand_no4 (by rw [← hBl.out]; exact c4)))
            have c4' := bne_nat_int c4
            go_wp2_with fail
            go_roundg (8 - (k + 1))
            case measure => omega
            case rel => exact ⟨k + 1, by omega, rfl, by go_num, hbel.out, hn'⟩
          have c4' := beq_nat_int c4
          have hFs : s.size ≤ B.size := by omega
          have c4h := Lib.hid c4
          clear c4
          have hts : s.toList = l := by rw [Lib.toList_data]; exact hl.out
          have hxt : (B.extract 0 s.size).toList = (Lib.encodeRune x).take l.length := by rw [Lib.toList_data, Lib.extract_data, ← hF.out, ← hsz.out]; simp
          by_cases c5 : (Lib.encodeRune x).take l.length = l
          · have hyes := Lib.hid (any_yes hk8 hx.out (cand_yes (l := l) (lo := lo) (hi := hi) (n := n) c1 c2 hG.out (by rw [← hBl.out]; exact c4h.out) c5))
            have c5' : ((B.extract 0 s.size).toList == s.toList) = true := by rw [hts, hxt, c5]; exact beq_self_eq_true _
            replace c5 := Lib.hid c5
            clear hts hxt
            go_wp2_with fail
            go_ret
            exact ⟨by rw [hR.out, hyes.out]; rfl, hbel0.out.trans (hbel.out.mono hbel0.out.size)⟩
          · have hn' := Lib.hid (any_next hk8 hx.out hno.out (cand_no5 (l := l) (lo := lo) (hi := hi) (n := n) c5))
            have c5' : ((B.extract 0 s.size).toList == s.toList) = false := by rw [hts, hxt]; exact beq_eq_false_iff_ne.2 c5
            replace c5 := Lib.hid c5
            clear hts hxt
            go_wp2_with fail
            go_roundg (8 - (k + 1))
            case measure => omega
            case rel => exact ⟨k + 1, by omega, rfl, by go_num, hbel.out, hn'⟩
      · obtain rfl : k = 8 := by omega
        have hno' : Hid (Dec.begL l = false) := Lib.hid (by rw [hR.out]; exact hno.out)
        clear hno
        go_wp2_with fail
        go_ret
        exact ⟨by rw [hno'.out]; rfl, hbel0.out.trans (hbel.mono hbel0.out.size)⟩
end Go.Proofs.YtcchcgllgodkhaaDoor
