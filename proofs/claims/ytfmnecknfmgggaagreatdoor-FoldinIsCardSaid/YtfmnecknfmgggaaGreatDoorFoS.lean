/- Layer 10: what is asked of the code's functions. -/
import Derived.Test.YtfmnecknfmgggaaGreatDoorFoM
import Derived.Test.YtfmnecknfmgggaaGreatDoorBasP
namespace Go.Proofs.YtfmnecknfmgggaaGreatDoor
set_option linter.unusedSimpArgs false
set_option linter.unusedVariables false
open Go.RowKit Go.Lib

/-- a state and what was told -/
def FedR (p : List Int × List Int) (w : World) (e : Ending) (w' : World) : Prop := ∃ va vb, e = .returned (.tuple #[.agg #[va], vb]) ∧ RI w' va p.1 ∧ RI w' vb p.2 ∧ Below w.heap.size w w'

/-- what Left, Feed and All of the code tell -/
def LeftC10 : Prop := ∀ (v : Value) (l : List Int) (w : World), l.length ≤ 10000 → RI w v l → WfI l → Calls Tryz.prog 9 #[v] w (Told (Fol.leftI l) w)
theorem left_of10 (h : LeftC10) {v : Value} {l m : List Int} {w : World} (e : Fol.leftI l = m) (hl : l.length ≤ 10000) (hw : WfI l) (hv : RI w v l) : Calls Tryz.prog 9 #[v] w (Told m w) := e ▸ h v l w hl hv hw
def FeedC10 : Prop := ∀ (v : Value) (l : List Int) (r : Int) (w : World), l.length ≤ 10000 → RI w v l → -9223372036854775808 ≤ r ∧ r ≤ 9223372036854775807 → Calls Tryz.prog 6 #[.agg #[v], .int .i64 r] w (FedR (Fol.feedI l r) w)
theorem feed_of10 (h : FeedC10) {v : Value} {l : List Int} {r : Int} {q : List Int × List Int} {w : World} (e : Fol.feedI l r = q) (hl : l.length ≤ 10000) (hr : -9223372036854775808 ≤ r ∧ r ≤ 9223372036854775807) (hv : RI w v l) : Calls Tryz.prog 6 #[.agg #[v], .int .i64 r] w (FedR q w) := e ▸ h v l r w hl hv hr
def AllC10 : Prop := ∀ (v : Value) (l : List Int) (w : World), l.length ≤ 10000 → RI w v l → WfI l → Calls Tryz.prog 11 #[v] w (Told (Fol.allI l) w)
theorem all_of10 (h : AllC10) {v : Value} {l m : List Int} {w : World} (e : Fol.allI l = m) (hl : l.length ≤ 10000) (hw : WfI l) (hv : RI w v l) : Calls Tryz.prog 11 #[v] w (Told m w) := e ▸ h v l w hl hv hw

def DropsC : Prop := ∀ (r : Int) (w : World), Calls Tryz.prog 32 #[.int .i64 r] w fun e w' => e = .returned (.bool (Prp.drpB r)) ∧ Below w.heap.size w w'

def CaseC : Prop := ∀ (v : Value) (l : List Int) (w : World), l.length ≤ 10000 → RI w v l → WfI l → Calls Tryz.prog 13 #[v] w (Told (Cas.allI l) w)
theorem case_of (h : CaseC) {v : Value} {l m : List Int} {w : World} (e : Cas.allI l = m) (hl : l.length ≤ 10000) (hw : WfI l) (hv : RI w v l) : Calls Tryz.prog 13 #[v] w (Told m w) := e ▸ h v l w hl hv hw

theorem wf_case {l : List Int} (h : WfI l) : WfI (Cas.allI l) := by
  intro x hx
  obtain ⟨y, hy, hxy⟩ := List.mem_flatMap.1 hx
  rcases Cas.fold_cases y with e | e
  · rw [e] at hxy
    obtain rfl : x = y := by simpa using hxy
    exact h x hy
  · have hg := Cas.rows_good _ e x hxy
    unfold Dec.goodB at hg
    simp at hg
    omega
theorem wf_left {l : List Int} (h : WfI l) : WfI (Fol.leftI l) := fun x hx => wf_case h x (List.mem_filter.1 hx).1

theorem left_le (l : List Int) : (Fol.leftI l).length ≤ 3 * l.length := Nat.le_trans (List.length_filter_le _ _) (Cas.all_len l).2
theorem all_len10 (l : List Int) : (Fol.allI l).length ≤ 24 * l.length := by
  rw [Fol.all_form]
  have h0 := left_le l
  have h1 := Nfk.safe_len (Nfk.madeI (Fol.leftI l)) 0 (by omega)
  have h2 := Nor.made_len (Fol.leftI l)
  have h3 : (Nfk.nfkcI (Fol.leftI l)).length ≤ (Nfk.nfkdI (Fol.leftI l)).length := Can.compose_le _
  have h4 : (Nfk.nfkdI (Fol.leftI l)).length = (Nfk.safeI (Nfk.madeI (Fol.leftI l)) 0).length := by unfold Nfk.nfkdI; rw [Can.orderI_len]
  omega

end Go.Proofs.YtfmnecknfmgggaaGreatDoor
