/- Layer 9: what is asked of the code's functions. -/
import Derived.Test.YtfmnecknfmgggaaGreatDoorNoM
import Derived.Test.YtfmnecknfmgggaaGreatDoorBasP
namespace Go.Proofs.YtfmnecknfmgggaaGreatDoor
set_option linter.unusedSimpArgs false
set_option linter.unusedVariables false
open Go.RowKit Go.Lib

/-- a state that the call made, and what was told -/
def Fed (p : List Int × List Int) (w : World) (e : Ending) (w' : World) : Prop := ∃ va vb, e = .returned (.tuple #[.agg #[va], vb]) ∧ OwnI w.heap.size va p.1 w' ∧ OwnI w.heap.size vb p.2 w' ∧ Below w.heap.size w w'

/-- what Sane, Feed, End and All of the code tell -/
def SaneC9 : Prop := ∀ (v : Value) (l : List Int) (w : World), l.length ≤ 10000 → RI w v l → Calls Tryz.prog 29 #[.agg #[v]] w fun e w' => e = .returned (.bool (Nor.saneB l)) ∧ Below w.heap.size w w'
def FeedC9 : Prop := ∀ (v : Value) (l : List Int) (r : Int) (w : World), l.length ≤ 10000 → RI w v l → Calls Tryz.prog 18 #[.agg #[v], .int .i64 r] w (Fed (Nor.feedI l r) w)
def EndC9 : Prop := ∀ (v : Value) (l : List Int) (w : World), l.length ≤ 10000 → RI w v l → Calls Tryz.prog 45 #[.agg #[v]] w (Told (Nor.endI l) w)
def AllC9 : Prop := ∀ (v : Value) (l : List Int) (w : World), l.length ≤ 10000 → RI w v l → Calls Tryz.prog 25 #[v] w (Told (Nor.allI l) w)

theorem sane_of9 (h : SaneC9) {v : Value} {l : List Int} {c : Bool} {w : World} (e : Nor.saneB l = c) (hl : l.length ≤ 10000) (hv : RI w v l) : Calls Tryz.prog 29 #[.agg #[v]] w fun e w' => e = .returned (.bool c) ∧ Below w.heap.size w w' := e ▸ h v l w hl hv
theorem feed_of9 (h : FeedC9) {v : Value} {l : List Int} {r : Int} {q : List Int × List Int} {w : World} (e : Nor.feedI l r = q) (hl : l.length ≤ 10000) (hv : RI w v l) : Calls Tryz.prog 18 #[.agg #[v], .int .i64 r] w (Fed q w) := e ▸ h v l r w hl hv
theorem end_of9 (h : EndC9) {v : Value} {l m : List Int} {w : World} (e : Nor.endI l = m) (hl : l.length ≤ 10000) (hv : RI w v l) : Calls Tryz.prog 45 #[.agg #[v]] w (Told m w) := e ▸ h v l w hl hv
theorem all_of9 (h : AllC9) {v : Value} {l m : List Int} {w : World} (e : Nor.allI l = m) (hl : l.length ≤ 10000) (hv : RI w v l) : Calls Tryz.prog 25 #[v] w (Told m w) := e ▸ h v l w hl hv

theorem end_len (l : List Int) : (Nor.endI l).length ≤ l.length := by
  unfold Nor.endI
  split
  · exact Can.compose_le l
  · simp

end Go.Proofs.YtfmnecknfmgggaaGreatDoor
