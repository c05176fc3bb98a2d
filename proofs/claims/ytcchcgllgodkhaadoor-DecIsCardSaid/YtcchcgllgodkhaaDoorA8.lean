/- The contract of the verifier's awake of layer 1: the document's example is answered as it is told. -/
import Derived.Test.YtcchcgllgodkhaaDoorA7
namespace Go.Proofs.YtcchcgllgodkhaaDoor
open Go.RowKit Go.Lib

theorem awake_all : Dec.allL [226, 130, 65, 226, 130, 172] = [65533, 65, 8364] := by
  rw [Dec.allL_eq]
  rfl

theorem awake_text : (⟨(Dec.textL [8364]).toArray⟩ : ByteArray) = ⟨#[226, 130, 172]⟩ := by rfl

theorem awake_bytes (w : World) : RBytes (w.alloc (.cells #[.int .u8 226, .int .u8 130, .int .u8 65, .int .u8 226, .int .u8 130, .int .u8 172] 5)) (.slice (some ⟨w.heap.size, 0, none⟩) 6 6) [226, 130, 65, 226, 130, 172] := by
  refine .inr ⟨⟨w.heap.size, 0, none⟩, 6, rfl, fun _ => ⟨w.heap.size, 0, rfl, by simp, ?_⟩⟩
  intro i hi
  have : i < 6 := hi
  rcases (by omega : i = 0 ∨ i = 1 ∨ i = 2 ∨ i = 3 ∨ i = 4 ∨ i = 5) with rfl | rfl | rfl | rfl | rfl | rfl <;> simp

set_option maxHeartbeats 800000 in
theorem awake_any (w : World) (hT : Lib.Utf8Tabs 0 1 w) :
    Calls Tryd.prog 4 #[] w fun e w' => e = .returned (.bool true) ∧ Below w.heap.size w w' := by
  go_enter Tryd.func4, Tryd.ntmps4
  go_wp2_with fail
  refine (all_any _ _ _ (tabs_alloc hT _) (by decide) (awake_bytes w)).mono ?_
  rintro e w1 ⟨v, rfl, hown, hb1⟩
  rw [awake_all] at hown
  have hbel := below_in hb1
  rcases own_src hown with ⟨_, h⟩ | ⟨g, cap, rfl, hg, hgl, hsrc⟩
  · simp at h
  have hc0 : w1.cell? ⟨g, 0, none⟩ = some (.int .i64 65533) := by have := hsrc 0 _ rfl; simpa [Addr.add] using this
  have hc1 : w1.cell? ⟨g, 1, none⟩ = some (.int .i64 65) := by have := hsrc 1 _ rfl; simpa [Addr.add] using this
  have hc2 : w1.cell? ⟨g, 2, none⟩ = some (.int .i64 8364) := by have := hsrc 2 _ rfl; simpa [Addr.add] using this
  have hcap : 3 ≤ cap := by
    rcases hown.2 with ⟨_, h⟩ | ⟨g', cap', cur, he, _, _, h, _⟩
    · simp at h
    · simp at he
      have := he.2
      simp at h
      omega
  clear hown hb1 hsrc
  have h65 : Dec.goodB 65 = true := by decide
  have h65 := Lib.hid h65
  go_wp2_with fail
  refine (good_any _ _).mono ?_
  rintro e w2 ⟨rfl, rfl⟩
  rw [h65.out]
  have hca : (2 : Int) < (cap : Int) := by omega
  have hcb : ((cap : Int) == 2) = false := beq_eq_false_iff_ne.2 (by omega)
  have hcc : ¬ cap = 2 := by omega
  have hr1 : RInts w1 (.slice (some ⟨g, 2, none⟩) 1 (cap - 2)) [8364] := .inr ⟨⟨g, 2, none⟩, cap - 2, rfl, fun _ => ⟨g, 2, rfl, hgl, fun i hi => by
    have : i = 0 := by simpa using hi
    subst this
    exact hc2⟩⟩
  have hr1 := Lib.hid hr1
  go_wp2_with fail
  refine (text_any _ [8364] w1 (by decide) hr1.out).mono ?_
  rintro e w3 ⟨rfl, hb3⟩
  rw [awake_text]
  have hbel3 := hbel.trans (hb3.mono hbel.size)
  clear hb3
  go_wp2_with fail
  go_ret
  exact ⟨rfl, hbel3⟩

end Go.Proofs.YtcchcgllgodkhaaDoor
