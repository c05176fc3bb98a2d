/- A range over a function, whatever its iterator keeps: small laws of ours over any program. -/
import Derived.RangeFuncWrites
import Derived.RangeFuncCalls
namespace Go.Proofs.YtiidjkhkcckmkaaGreatDoor
set_option linter.unusedSimpArgs false
set_option linter.unusedVariables false
open Go Go.RowKit
variable {F : Fence} {n : Nat} {P : Program}
/-- the statement, at an outermost loop none of whose rounds jumps -/
theorem wpIn_rangeFunc_ours {g : Operand} {ps : Array Tmp} {assign body : Code} {Q : Exit → Act → World → Prop} {a : Act} {w : World}
    (hro : F.round = none) (h1 : 1 ≤ n) {gf : Nat} {lb : Array Value} (hg : a.eval g = .func (.func gf) #[] lb) (hFg : F.fn gf) (eg : ∀ args w, (callFunc gf args).run P w = .ok (.enter gf args) w)
    (h : ∀ fn, F.fn fn → CallsIn F (n - 1) P gf (#[.func (.yield (w.heap.size + 1)) #[] #[]] ++ lb) ((w.alloc (.deferred (some []))).alloc (.loop { state := .ready, pending := none, fn, tmps := a.tmps, params := ps, assign, body, defers := w.heap.size }))
      fun e W => (∃ v, e = .returned v) ∧ ∃ r : Loop, W.heap[w.heap.size + 1]? = some (.loop r) ∧ r.state ≠ .busy ∧ r.pending = none ∧ ∀ o : Obj, Q .normal { a with defers := { target := .collected w.heap.size, args := #[] } :: a.defers } (W.putObj (w.heap.size + 1) o)) :
    (Code.rangeFunc g ps assign body).wpIn F n P Q a w := by
  refine wpIn_rangeFunc ?_
  intro fn hfn
  rw [hro]
  obtain ⟨W1, hW1⟩ : ∃ W1, (w.alloc (.deferred (some []))).alloc (.loop { state := .ready, pending := none, fn, tmps := a.tmps, params := ps, assign, body, defers := w.heap.size }) = W1 := ⟨_, rfl⟩
  have h2 := h fn hfn
  rw [hW1] at h2
  have h3 : CallsIn F (n - 1) P gf (#[.func (.yield (w.heap.size + 1)) #[] #[]] ++ lb) W1 (rangePost F n P (w.heap.size + 1) Q { a with defers := [{ target := .collected w.heap.size, args := #[] }] ++ a.defers }) := by
    refine h2.mono ?_
    rintro e W ⟨⟨v, rfl⟩, r, hl, hb, hp, hq⟩
    obtain ⟨st, pe, f0, tm, pa, as, bo, de⟩ := r
    dsimp only at hp
    subst hp
    have he := run_endLoop (P := P) hl hb
    exact ⟨none, _, he, hq _⟩
  clear h2 h
  refine ⟨w.heap.size + 1, [{ target := .collected w.heap.size, args := #[] }], W1, { target := .fn (.func gf) lb, args := #[.func (.yield (w.heap.size + 1)) #[] #[]] }, W1, gf,
    #[.func (.yield (w.heap.size + 1)) #[] #[]] ++ lb, W1, ?_, ?_, ?_, ?_, fun _ => h1, ?_⟩
  · rw [← hW1]
    exact run_enterLoop_outer _ _ _ _ _
  · simp only [resolve, hg]
    simp [go_sem]
  · intro f' hf'
    simp [Target.leads] at hf'
    subst hf'
    exact hFg
  · simp [invoke, go_sem, eg]
  · exact h3
/-- one round, whose body comes to its end -/
theorem yieldAt_ours {l : Nat} {r : Loop} {args : Array Value} {W : World} {R : Ending → World → Prop} (hF : F.fn r.fn) (hl : W.heap[l]? = some (.loop r)) (hr : r.state = .ready) (hp : r.pending = none) (hs : args.size = r.params.size) (a₁ : Act)
    (hassign : ∀ K : Act → World → Prop, K a₁ W → r.assign.wpIn (F.inRound l) n P (Exit.then K (fun _ _ _ => False)) { tmps := (r.params.zip args).foldl (fun t (p, v) => t.setIfInBounds p v) r.tmps, defers := [] } W)
    (hbody : r.body.wpIn (F.inRound l) n P (Exit.then (fun _ W3 => W3.heap[l]? = some (.loop { r with state := .busy }) ∧ R (.returned (.bool true)) (W3.putObj l (.loop r))) (fun _ _ _ => False)) a₁ (W.putObj l (.loop { r with state := .busy }))) :
    YieldAt F n P l args W R := by
  refine ⟨r.fn, _, r.assign, r.body, run_yield (P := P) (args := args) hl hs, roundIn_of_wpIn hF (hassign _ ⟨_, run_beginRound hl hr, wpIn_mono hbody ?_⟩)⟩
  rintro e a3 W3 hq
  cases e with
  | normal =>
    obtain ⟨hl3, hR⟩ := hq
    have he := run_endRound (P := P) none hl3
    refine ⟨_, _, he, ?_⟩
    have e1 : (({ r with state := .busy } : Loop)) = { r with state := .busy } := rfl
    have e2 : ({ ({ r with state := .busy } : Loop) with state := if (none : Option Code).isNone then .ready else .done, pending := none } : Loop) = r := by
      obtain ⟨st, pe, fn, tm, pa, as, bo, de⟩ := r
      simp at hr hp
      subst hr hp
      rfl
    rw [e2]
    exact hR
  | ret => exact hq.elim
  | exit id => exact hq.elim
  | goto t => exact hq.elim
  | panic ch => exact hq.elim
  | outgrown => exact hq.elim
end Go.Proofs.YtiidjkhkcckmkaaGreatDoor
