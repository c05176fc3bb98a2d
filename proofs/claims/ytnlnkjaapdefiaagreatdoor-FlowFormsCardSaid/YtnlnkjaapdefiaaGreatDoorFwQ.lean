/- Layer 14: what is asked of the code's dec by the statements on forms and frames. -/
import Derived.Test.YtnlnkjaapdefiaaGreatDoorFwW0
import Derived.Test.YtnlnkjaapdefiaaGreatDoorNfP
import Derived.Test.YtnlnkjaapdefiaaGreatDoorCnP
import Derived.Test.YtnlnkjaapdefiaaGreatDoorCv
namespace Go.Proofs.YtnlnkjaapdefiaaGreatDoor
set_option linter.unusedSimpArgs false
set_option linter.unusedVariables false
open Go.RowKit Go.Lib
def FormW : Prop := ∀ (v : Value) (l : List Int) (w : World), l.length ≤ 12000 → RI w v l → WfI l → Calls Tryz.prog 23 #[v] w fun e w' => e = .returned (.bool (sameB (Nfk.nfkcI l) l)) ∧ Below w.heap.size w w'
def MarksW : Prop := ∀ (v : Value) (l : List Int) (w : World), l.length ≤ 12000 → RI w v l → WfI l → Calls Tryz.prog 24 #[v] w fun e w' => e = .returned (.int .i64 (Can.marksI l : Nat)) ∧ Below w.heap.size w w'
namespace Flw
theorem frame_short {b : List UInt8} (h : b.length ≤ 200) : (frameI b).length ≤ 100000 := by
  have h0 := (values_few h).2.2.2
  have h1 := clusters_flat b
  have h2 := clusters_len b
  have : ∀ L : List (List Int), (∀ x ∈ L, 1 ≤ x.length ∧ x.length ≤ 32) → (L.flatMap Frm.putF).length ≤ 8 * L.flatten.length := by
    intro L hL
    induction L with
    | nil => simp
    | cons c t ih =>
      have hc := hL c (List.mem_cons_self ..)
      have h1 : (Frm.putF c).length ≤ 8 * c.length := by
        unfold Frm.putF
        split
        · simp
        · have h6 := Dec.textL_len c
          have h5 := Var.put_len_le (Dec.textL c).length (by omega)
          unfold Frm.frameOf
          rw [List.length_append]
          omega
      have h2 := ih fun x hx => hL x (List.mem_cons_of_mem _ hx)
      rw [List.flatMap_cons, List.flatten_cons, List.length_append, List.length_append]
      omega
  have h3 := this _ h2
  rw [h1] at h3
  unfold frameI
  omega
theorem small_form {g X : List Int} (hg : Good g) (hX : Good X) (hl : g.length ≤ 60) (hXl : X.length ≤ 300) (h : Nfk.nfkcI X = Nfk.nfkcI g) : Small (Dec.textL X) := by
  have e := read_text hX
  have h1 := Dec.textL_len X
  have h2 := nfkc_sharp g
  have h3 := left_three (Nfk.nfkcI g)
  have h4 := nfkc_sharp (Fol.leftI (Nfk.nfkcI g))
  have h5 : valuesI (Dec.textL X) = Nfk.nfkcI (Fol.leftI (Nfk.nfkcI (Dec.allL (Dec.textL X)))) := rfl
  rw [e, h] at h5
  exact ⟨by omega, by rw [e]; omega, by rw [e, h]; omega, by rw [e, h]; omega, by rw [h5]; omega⟩
theorem good_wf {l : List Int} (h : Good l) : WfI l := fun x hx => by
  have := (Dec.goodB_iff x).1 (h x hx)
  omega
theorem form_lens {g : List Int} (hl : g.length ≤ 60) : (Nfk.nfkcI g).length ≤ 300 ∧ (Nfk.nfkdI g).length ≤ 300 ∧ (Nfk.madeI g).length ≤ 300 := by
  have h2 : (Nfk.nfkdI g).length = (Nfk.safeI (Nfk.madeI g) 0).length := by unfold Nfk.nfkdI; rw [Can.orderI_len]
  have h3 := Nfk.safe_len (Nfk.madeI g) 0 (by omega)
  have h4 := made_four g
  have h1 := nfkc_sharp g
  omega
theorem kept_good (l : List Int) : Good (l.filter Dec.goodB) := fun x hx => (List.mem_filter.1 hx).2
end Flw
end Go.Proofs.YtnlnkjaapdefiaaGreatDoor
