/- Layer 15: lemmas of the loops over a machine. -/
import Derived.Test.YtiidjkhkcckmkaaGreatDoorMaR0
import Derived.Test.YtiidjkhkcckmkaaGreatDoorKP
namespace Go.Proofs.YtiidjkhkcckmkaaGreatDoor
set_option linter.unusedSimpArgs false
set_option linter.unusedVariables false
open Go.RowKit Go.Lib
open Mch (MS)
theorem ownI_but {B : Nat} {J : Nat → Prop} {v : Value} {l : List Int} {w w1 : World} (h : OwnI B v l w) (hs : SameBut J w w1) (ho : ∀ j, J j → v.ownBlock ≠ some j) : OwnI B v l w1 := by
  refine ⟨h.1, ?_⟩
  rcases h.2 with hn | ⟨g, cap, cur, rfl, hg, hh, r⟩
  · exact .inl hn
  · refine .inr ⟨g, cap, cur, rfl, hg, ?_, r⟩
    rw [hs.2 g (Array.getElem?_eq_some_iff.1 hh).1 (fun hJ => ho g hJ rfl)]
    exact hh
theorem Mch.feeds_snoc (m : MS) (l : List Int) (x : Int) : Mch.feedsM m (l ++ [x]) = ((Mch.feedM (Mch.feedsM m l).1 x).1, (Mch.feedsM m l).2 ++ (Mch.feedM (Mch.feedsM m l).1 x).2) := by
  rw [Mch.feeds_app]
  simp [Mch.feedsM]
theorem Mch.feeds_sane (k : Int) (l : List Int) : Mch.saneM (Mch.feedsM (Mch.newM k) l).1 = true := by
  have : ∀ (l : List Int) (m : MS), Mch.saneM m = true → Mch.saneM (Mch.feedsM m l).1 = true := by
    intro l
    induction l with
    | nil => exact fun m h => h
    | cons x t ih => exact fun m h => ih _ (Mch.feed_sane m x).1
  exact this l _ (Mch.new_sane k)
theorem rm_drew {w : World} {v : Value} {m : MS} (h : RM w v m) : RM w.drew v m := h
theorem tabs_drew15 {w : World} (h : Tabs w) : Tabs w.drew := tabs_next h (Below.refl _ _).drew
theorem off_lies {v v5 va : Value} {W : World} {m : MS} (hl : Lies v5 v W) (h : ∀ j, v.ownBlock = some j → OffM j va) (hr : RM W va m) : ∀ j, v5.ownBlock = some j → OffM j va := by
  intro j e
  rcases hl with h1 | ⟨k, h1, h2⟩
  · exact h j (h1 ▸ e)
  · rw [h1] at e
    cases e
    exact rm_off hr h2
/-- some of the items fed -/
def Fed15 (T : TypeId) (bS : Nat) (w0 : World) (q : MS × List Int) (vo : Value) (wr : World) : Prop :=
  ∃ pn cn pg cg pc cc, Blk wr bS (cellsM q.1.kind ⟨q.1.d.toArray⟩ pn q.1.n.length cn pg q.1.g.length cg q.1.s.on q.1.s.kind q.1.s.pict q.1.s.odd pc q.1.c.length cc) T
    ∧ RM wr (.agg (cellsM q.1.kind ⟨q.1.d.toArray⟩ pn q.1.n.length cn pg q.1.g.length cg q.1.s.on q.1.s.kind q.1.s.pict q.1.s.odd pc q.1.c.length cc)) q.1
    ∧ OffM bS (.agg (cellsM q.1.kind ⟨q.1.d.toArray⟩ pn q.1.n.length cn pg q.1.g.length cg q.1.s.on q.1.s.kind q.1.s.pict q.1.s.odd pc q.1.c.length cc))
    ∧ (∀ j, vo.ownBlock = some j → OffM j (.agg (cellsM q.1.kind ⟨q.1.d.toArray⟩ pn q.1.n.length cn pg q.1.g.length cg q.1.s.on q.1.s.kind q.1.s.pict q.1.s.odd pc q.1.c.length cc)))
    ∧ OwnI (bS + 1) vo q.2 wr ∧ Below bS w0 wr
end Go.Proofs.YtiidjkhkcckmkaaGreatDoor
