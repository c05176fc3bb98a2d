/- Layer 8: what is asked of the code's functions; the document's example. -/
import Derived.Test.YtfmnecknfmgggaaGreatDoorNfM
import Derived.Test.YtfmnecknfmgggaaGreatDoorCnP
import Derived.Test.YtfmnecknfmgggaaGreatDoorCnN
namespace Go.Proofs.YtfmnecknfmgggaaGreatDoor
set_option linter.unusedSimpArgs false
set_option linter.unusedVariables false
open Go.RowKit Go.Lib

/-- what Made, Safe, Nfkd, Nfkc and Is of the code tell -/
def MadeC : Prop := ∀ (v : Value) (l : List Int) (w : World), l.length ≤ 10000 → RI w v l → WfI l → Calls Tryz.prog 73 #[v] w (Told (Nfk.madeI l) w)
def SafeC : Prop := ∀ (v : Value) (l : List Int) (w : World), l.length ≤ 10000 → RI w v l → WfI l → Calls Tryz.prog 72 #[v] w (Told (Nfk.safeI l 0) w)
def NfkdC : Prop := ∀ (v : Value) (l : List Int) (w : World), l.length ≤ 10000 → RI w v l → WfI l → Calls Tryz.prog 48 #[v] w (Told (Nfk.nfkdI l) w)
def NfkcC : Prop := ∀ (v : Value) (l : List Int) (w : World), l.length ≤ 10000 → RI w v l → WfI l → Calls Tryz.prog 28 #[v] w (Told (Nfk.nfkcI l) w)
def FormC : Prop := ∀ (v : Value) (l : List Int) (w : World), l.length ≤ 10000 → RI w v l → WfI l → Calls Tryz.prog 14 #[v] w fun e w' => e = .returned (.bool (sameB (Nfk.nfkcI l) l)) ∧ Below w.heap.size w w'

theorem made_of (h : MadeC) {v : Value} {l m : List Int} {w : World} (e : Nfk.madeI l = m) (hl : l.length ≤ 10000) (hw : WfI l) (hv : RI w v l) : Calls Tryz.prog 73 #[v] w (Told m w) := e ▸ h v l w hl hv hw
theorem safe_of (h : SafeC) {v : Value} {l m : List Int} {w : World} (e : Nfk.safeI l 0 = m) (hl : l.length ≤ 10000) (hw : WfI l) (hv : RI w v l) : Calls Tryz.prog 72 #[v] w (Told m w) := e ▸ h v l w hl hv hw
theorem nfkd_of (h : NfkdC) {v : Value} {l m : List Int} {w : World} (e : Nfk.nfkdI l = m) (hl : l.length ≤ 10000) (hw : WfI l) (hv : RI w v l) : Calls Tryz.prog 48 #[v] w (Told m w) := e ▸ h v l w hl hv hw
theorem nfkc_of (h : NfkcC) {v : Value} {l m : List Int} {w : World} (e : Nfk.nfkcI l = m) (hl : l.length ≤ 10000) (hw : WfI l) (hv : RI w v l) : Calls Tryz.prog 28 #[v] w (Told m w) := e ▸ h v l w hl hv hw
theorem form_yes (h : FormC) {v : Value} {l : List Int} {w : World} (e : Nfk.nfkcI l = l) (hl : l.length ≤ 10000) (hw : WfI l) (hv : RI w v l) : Calls Tryz.prog 14 #[v] w fun e w' => e = .returned (.bool true) ∧ Below w.heap.size w w' := by
  have := h v l w hl hv hw
  rwa [e, show sameB l l = true from decide_eq_true rfl] at this

theorem wf_madeN {l : List Int} (h : WfI l) : WfI (Nfk.madeI l) := Can.wf_made h
theorem wf_safe {l : List Int} (h : WfI l) : WfI (Nfk.safeI l 0) := fun x hx => by
  rcases Nfk.safe_mem hx with h1 | rfl
  · exact h x h1
  · omega
theorem wf_nfkd {l : List Int} (h : WfI l) : WfI (Nfk.nfkdI l) := wf_order (wf_safe (wf_madeN h))
theorem wf_nfkc {l : List Int} (h : WfI l) : WfI (Nfk.nfkcI l) := Can.wf_compose (wf_nfkd h)
theorem made_lenN (l : List Int) : (Nfk.madeI l).length ≤ 4 * l.length := Can.made_len l
theorem safe_lenN (l : List Int) : (Nfk.safeI l 0).length ≤ 2 * l.length := by
  have := Nfk.safe_len l 0 (by omega)
  omega
theorem nfkd_len (l : List Int) : (Nfk.nfkdI l).length ≤ 8 * l.length := by
  unfold Nfk.nfkdI
  rw [Can.orderI_len]
  have := safe_lenN (Nfk.madeI l)
  have := made_lenN l
  omega
theorem nfkc_len (l : List Int) : (Nfk.nfkcI l).length ≤ 8 * l.length := Nat.le_trans (Can.compose_le _) (nfkd_len l)


end Go.Proofs.YtfmnecknfmgggaaGreatDoor
