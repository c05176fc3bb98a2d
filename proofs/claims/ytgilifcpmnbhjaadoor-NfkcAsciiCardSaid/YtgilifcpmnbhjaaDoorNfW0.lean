/- Layer 8: what is asked of the code's functions; the document's example. -/
import Derived.Test.YtgilifcpmnbhjaaDoorNfM
import Derived.Test.YtgilifcpmnbhjaaDoorCnP
import Derived.Test.YtgilifcpmnbhjaaDoorCnN
namespace Go.Proofs.YtgilifcpmnbhjaaDoor
set_option linter.unusedSimpArgs false
set_option linter.unusedVariables false
open Go.RowKit Go.Lib

/-- what Made, Safe, Nfkd, Nfkc and Is of the code tell -/
def MadeC : Prop := ∀ (v : Value) (l : List Int) (w : World), l.length ≤ 10000 → RI w v l → WfI l → Calls Tryd.prog 11 #[v] w (Told (Nfk.madeI l) w)
def SafeC : Prop := ∀ (v : Value) (l : List Int) (w : World), l.length ≤ 10000 → RI w v l → WfI l → Calls Tryd.prog 13 #[v] w (Told (Nfk.safeI l 0) w)
def NfkdC : Prop := ∀ (v : Value) (l : List Int) (w : World), l.length ≤ 10000 → RI w v l → WfI l → Calls Tryd.prog 15 #[v] w (Told (Nfk.nfkdI l) w)
def NfkcC : Prop := ∀ (v : Value) (l : List Int) (w : World), l.length ≤ 10000 → RI w v l → WfI l → Calls Tryd.prog 17 #[v] w (Told (Nfk.nfkcI l) w)
def FormC : Prop := ∀ (v : Value) (l : List Int) (w : World), l.length ≤ 10000 → RI w v l → WfI l → Calls Tryd.prog 19 #[v] w fun e w' => e = .returned (.bool (sameB (Nfk.nfkcI l) l)) ∧ Below w.heap.size w w'

theorem made_of (h : MadeC) {v : Value} {l m : List Int} {w : World} (e : Nfk.madeI l = m) (hl : l.length ≤ 10000) (hw : WfI l) (hv : RI w v l) : Calls Tryd.prog 11 #[v] w (Told m w) := e ▸ h v l w hl hv hw
theorem safe_of (h : SafeC) {v : Value} {l m : List Int} {w : World} (e : Nfk.safeI l 0 = m) (hl : l.length ≤ 10000) (hw : WfI l) (hv : RI w v l) : Calls Tryd.prog 13 #[v] w (Told m w) := e ▸ h v l w hl hv hw
theorem nfkd_of (h : NfkdC) {v : Value} {l m : List Int} {w : World} (e : Nfk.nfkdI l = m) (hl : l.length ≤ 10000) (hw : WfI l) (hv : RI w v l) : Calls Tryd.prog 15 #[v] w (Told m w) := e ▸ h v l w hl hv hw
theorem nfkc_of (h : NfkcC) {v : Value} {l m : List Int} {w : World} (e : Nfk.nfkcI l = m) (hl : l.length ≤ 10000) (hw : WfI l) (hv : RI w v l) : Calls Tryd.prog 17 #[v] w (Told m w) := e ▸ h v l w hl hv hw
theorem form_yes (h : FormC) {v : Value} {l : List Int} {w : World} (e : Nfk.nfkcI l = l) (hl : l.length ≤ 10000) (hw : WfI l) (hv : RI w v l) : Calls Tryd.prog 19 #[v] w fun e w' => e = .returned (.bool true) ∧ Below w.heap.size w w' := by
  have := h v l w hl hv hw
  rwa [e, show sameB l l = true from decide_eq_true rfl] at this

theorem wf_madeN {l : List Int} (h : WfI l) : WfI (Nfk.madeI l) := Can.wf_made h
theorem wf_safe {l : List Int} (h : WfI l) : WfI (Nfk.safeI l 0) := fun x hx => by
  rcases Nfk.safe_mem hx with h1 | rfl
  · exact h x h1
  · omega
theorem wf_nfkd {l : List Int} (h : WfI l) : WfI (Nfk.nfkdI l) := wf_order (wf_safe (wf_madeN h))
theorem wf_nfkc {l : List Int} (h : WfI l) : WfI (Nfk.nfkcI l) := Can.wf_compose (wf_nfkd h)
theorem made_lenN (l : List Int) : (Nfk.madeI l).length ≤ 4 * l.length := Can.made_len l
theorem safe_lenN (l : List Int) : (Nfk.safeI l 0).length ≤ 2 * l.length := by
  have := Nfk.safe_len l 0 (by omega)
  omega
theorem nfkd_len (l : List Int) : (Nfk.nfkdI l).length ≤ 8 * l.length := by
  unfold Nfk.nfkdI
  rw [Can.orderI_len]
  have := safe_lenN (Nfk.madeI l)
  have := made_lenN l
  omega
theorem nfkc_len (l : List Int) : (Nfk.nfkcI l).length ≤ 8 * l.length := Nat.le_trans (Can.compose_le _) (nfkd_len l)

set_option maxHeartbeats 1600000 in
set_option maxRecDepth 100000 in
theorem awake8 (hM : MadeC) (hK : NfkcC) (hF : FormC) (w : World) :
    Calls Tryd.prog 9 #[] w fun e w' => e = .returned (.bool true) ∧ Below w.heap.size w w' := by
  have hr0 := Lib.hid (ri_of_own (ownI_lit w.heap.size w [64257, 8491] #[.int .i64 64257, .int .i64 8491] w.heap.size 2 rfl (Nat.le_refl _) rfl rfl (by unfold maxLen; omega)))
  have b0 := Lib.hid (below_new w (.cells #[.int .i64 64257, .int .i64 8491] 3))
  go_enter Tryd.func9, Tryd.ntmps9
  go_wp2_with fail
  refine (nfkc_of hK (m := [102, 105, 197]) (by decide +kernel) (by simp) (by unfold WfI; decide) hr0.out).mono ?_
  rintro e w1 ⟨v, rfl, hv, q1⟩
  obtain ⟨p, cap, rfl⟩ := ri_form hv
  obtain ⟨b, off, rfl, hlt, hcell⟩ := ri_at hv (by simp)
  have c0 : w1.cell? ⟨b, off, none⟩ = some (.int .i64 102) := hcell 0 (by simp)
  have c2 : w1.cell? ⟨b, off + 2, none⟩ = some (.int .i64 197) := hcell 2 (by simp)
  have b1 := Lib.hid (below_on b0.out q1)
  replace hv := Lib.hid hv
  clear hcell hr0 q1
  go_wp2_with fail
  refine (form_yes hF (by decide +kernel) (by simp) (by unfold WfI; decide) hv.out).mono ?_
  rintro e w2 ⟨rfl, q2⟩
  replace hv := Lib.hid (ri_below hv.out q2)
  have b2 := Lib.hid (below_on b1.out q2)
  clear c0 c2 q2
  go_wp2_with fail
  refine (made_of hM (m := [102, 105, 65, 778]) (by decide +kernel) (by simp) (by unfold WfI; decide) hv.out).mono ?_
  rintro e w3 ⟨v, rfl, hv3, q3⟩
  obtain ⟨p3, c3, rfl⟩ := ri_form hv3
  have b3 := Lib.hid (below_on b2.out q3)
  clear hv3 q3
  go_wp2_with fail
  go_ret
  exact ⟨rfl, b3.out⟩

end Go.Proofs.YtgilifcpmnbhjaaDoor
