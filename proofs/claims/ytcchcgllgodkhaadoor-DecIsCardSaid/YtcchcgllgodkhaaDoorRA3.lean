/- Layer 1, the document's answer: whole. -/
import Derived.Test.YtcchcgllgodkhaaDoorRA2
import Derived.Test.YtcchcgllgodkhaaDoorA8
namespace Go.Proofs.YtcchcgllgodkhaaDoor
open Go.RowKit Go.Lib

/-- what whole comes to -/
def WholeRes (l : List UInt8) (w : World) (e : Ending) (w' : World) : Prop :=
  ∃ v ok, e = .returned (.tuple #[.int .i64 v, .bool ok]) ∧ (ok = true → Dec.wholeP l ∧ v = (Dec.valN l 0 : Int)) ∧ (ok = false → ¬ Dec.wholeP l) ∧ Below w.heap.size w w'

theorem whole_res_no {l : List UInt8} {w w' : World} {v : Int} (h : ¬ Dec.wholeP l) (hb : Below w.heap.size w w') : WholeRes l w (.returned (.tuple #[.int .i64 v, .bool false])) w' :=
  ⟨v, false, rfl, (fun h => by cases h), (fun _ => h), hb⟩

theorem nb_first {l : List UInt8} (h0 : 0 < l.length) : Dec.nb l 0 = l[0].toNat := by unfold Dec.nb; rw [List.getD_eq_getElem?_getD, List.getElem?_eq_getElem h0]; rfl

set_option maxHeartbeats 1600000 in
theorem whole_any (s : ByteArray) (l : List UInt8) (hl : s.data.toList = l) (h0 : 0 < l.length) (h4 : l.length ≤ 4) (w : World) :
    Calls Tryd.prog 20 #[.string s] w (WholeRes l w) := by
  have hsz : s.size = l.length := by subst hl; rfl
  obtain ⟨hs0, e0⟩ := str_get hl 0 h0
  have hnb := nb_first h0
  obtain ⟨x0, hx0⟩ : ∃ x0, l[0] = x0 := ⟨_, rfl⟩
  rw [hx0] at e0 hnb
  have hb0 := x0.toNat_lt
  have hb0' : (x0.toNat : Int) < 256 := by omega
  have hn4 := (head_bound x0.toNat hb0).1
  have hhead := head_any x0.toNat hb0
  have hz : ((s.size : Int) == 0) = false := beq_eq_false_iff_ne.2 (by omega)
  have hval := value_any s l hl h0 h4 0 (by decide)
  unfold HRes at hhead
  obtain ⟨n, hn⟩ : ∃ n, (Dec.headN x0.toNat).1 = n := ⟨_, rfl⟩
  rw [hn] at hhead hn4
  have hnn : (Dec.headN (Dec.nb l 0)).1 = n := by rw [hnb, hn]
  replace hhead := Lib.hid hhead
  have hszN : s.size ≤ 4 := by omega
  by_cases hne : n = s.size
  · have t1 := bne_nat_int' hne
    have hwp : Dec.wholeP l ↔ Dec.goodB (Dec.valN l 0 : Int) = true ∧ Lib.encodeRune (Dec.valN l 0 : Int) = l := by
      unfold Dec.wholeP
      constructor
      · exact fun h => h.2.2
      · exact fun h => ⟨by intro e; rw [e] at h0; simp at h0, by rw [hnn]; omega, h⟩
    obtain ⟨V, hV⟩ : ∃ V : Int, (Dec.valN l 0 : Int) = V := ⟨_, rfl⟩
    rw [hV] at hwp
    replace hval : ∀ w, Calls Tryd.prog 29 #[.string s, .int .i64 0] w fun e w' => e = .returned (.int .i64 V) ∧ w = w' := fun w => by rw [← hV]; exact hval w
    have hgood := rgood_any V
    cases hG : Dec.goodB V with
    | false =>
      rw [hG] at hgood
      have hno : Hid (¬ Dec.wholeP l) := Lib.hid (by rw [hwp, hG]; simp)
      replace hval := Lib.hid hval
      replace hgood := Lib.hid hgood
      clear hwp hG hV hnn hn hnb hx0 hl h0 h4 hsz hne
      go_enter Tryd.func20, Tryd.ntmps20
      go_wp2_with fail
      refine (hhead.out _).mono ?_
      rintro e w1 ⟨rfl, rfl⟩
      go_wp2_with fail
      refine (hval.out _).mono ?_
      rintro e w1 ⟨rfl, rfl⟩
      go_wp2_with fail
      refine (hgood.out _).mono ?_
      rintro e w1 ⟨rfl, rfl⟩
      go_wp2_with fail
      go_ret2
      exact whole_res_no hno.out (Below.refl _ _)
    | true =>
      rw [hG] at hgood
      have hform := Lib.hid (form_any V hG)
      replace hval := Lib.hid hval
      replace hgood := Lib.hid hgood
      rw [hG] at hwp
      replace hwp := Lib.hid hwp
      replace hV := Lib.hid hV
      replace hl := Lib.hid hl
      clear hG hnn hn hnb hx0 h0 h4 hsz hne
      go_enter Tryd.func20, Tryd.ntmps20
      go_wp2_with fail
      refine (hhead.out _).mono ?_
      rintro e w1 ⟨rfl, rfl⟩
      go_wp2_with fail
      refine (hval.out _).mono ?_
      rintro e w1 ⟨rfl, rfl⟩
      go_wp2_with fail
      refine (hgood.out _).mono ?_
      rintro e w1 ⟨rfl, rfl⟩
      go_wp2_with fail
      refine (hform.out _).mono ?_
      rintro e w2 ⟨rfl, hb2⟩
      replace hb2 := Lib.hid hb2
      go_wp2_with fail
      go_ret2
      have hts : s.toList = l := by rw [Lib.toList_data]; exact hl.out
      refine ⟨V, (Lib.encodeRune V == s.toList), rfl, fun h => ?_, fun h => ?_, hb2.out⟩
      · rw [hts] at h
        exact ⟨hwp.out.2 ⟨trivial, eq_of_beq h⟩, hV.out.symm⟩
      · rw [hts] at h
        intro hw
        rw [(hwp.out.1 hw).2] at h
        simp at h
  · have t1 : ((n : Int) != (s.size : Int)) = true := bne_iff_ne.2 (by omega)
    have hno : Hid (¬ Dec.wholeP l) := Lib.hid (fun h => by have := h.2.1; rw [hnn] at this; omega)
    clear hval hnn hn hnb hx0 hl h0 h4 hsz hne
    go_enter Tryd.func20, Tryd.ntmps20
    go_wp2_with fail
    refine (hhead.out _).mono ?_
    rintro e w1 ⟨rfl, rfl⟩
    go_wp2_with fail
    go_ret2
    exact whole_res_no hno.out (Below.refl _ _)
end Go.Proofs.YtcchcgllgodkhaaDoor
