/- Layer 16: the code's isBlock, slices.Clone of rows, behind. -/
import Derived.Test.YtcbfgcmdlfediaaChR4
import Derived.Test.YtcbfgcmdlfediaaSc
import Derived.ArgAppend
namespace Go.Proofs.Ytcbfgcmdlfediaa
set_option linter.unusedSimpArgs false
set_option linter.unusedVariables false
open Go.RowKit Go.Lib
open Stg (Ch)
theorem row_mono16 {B B' n : Nat} {v : Value} {us : List Value} {T : TypeId} {w : World} (h : w.ownsRow B' T 1 v n us) (hB : B ≤ B') : w.ownsRow B T 1 v n us := by
  refine ⟨h.1, ?_⟩
  rcases h.2 with h2 | ⟨g, cap, cur, hv, hg, r⟩
  · exact .inl h2
  · exact .inr ⟨g, cap, cur, hv, Nat.le_trans hB hg, r⟩
theorem okB_dec (b : List Int) : Stg.okB b = (decide (1 ≤ b.length) && decide (b.length ≤ 8)) := rfl
set_option maxHeartbeats 1600000 in
set_option maxRecDepth 100000 in
theorem isBlock16 (p : Option Addr) (cap : Nat) (b : List Int) (w : World) : Calls Try.prog 28 #[.slice p b.length cap] w fun e w' => e = .returned (.bool (Stg.okB b)) ∧ w' = w := by
  rw [okB_dec]
  obtain ⟨m, hm⟩ : ∃ m, b.length = m := ⟨_, rfl⟩
  rw [hm]
  clear hm
  by_cases h1 : 1 ≤ m
  · have n1 : (0 : Int) < (m : Int) := by omega
    by_cases h2 : m ≤ 8
    · have n2 : (m : Int) ≤ 8 := by omega
      rw [decide_eq_true h1, decide_eq_true h2]
      go_enter Try.func28, Try.ntmps28
      go_wp2_with fail
      go_ret
      exact ⟨rfl, rfl⟩
    · have n2 : ¬ (m : Int) ≤ 8 := by omega
      rw [decide_eq_true h1, decide_eq_false h2]
      go_enter Try.func28, Try.ntmps28
      go_wp2_with fail
      go_ret
      exact ⟨rfl, rfl⟩
  · have n1 : ¬ (0 : Int) < (m : Int) := by omega
    rw [decide_eq_false h1]
    go_enter Try.func28, Try.ntmps28
    go_wp2_with fail
    go_ret
    exact ⟨rfl, rfl⟩
/-- a row of slices in memory of its own, whose blocks read off these -/
def OwnRo (B : Nat) (J : Nat → Prop) (v : Value) (ls : List (List Int)) (us : List Value) (w : World) : Prop :=
  w.ownsRow B 25 1 v ls.length us ∧ us.length = ls.length ∧ ∀ (i : Nat) (u : Value) (l : List Int), us[i]? = some u → ls[i]? = some l → RIo J w u l
set_option maxHeartbeats 1600000 in
set_option maxRecDepth 100000 in
/-- slices.Clone of rows -/
theorem rclone16 (J : Nat → Prop) (v : Value) (ls : List (List Int)) (w : World) (hl : ls.length ≤ 100000) (hv : RRo J w v ls) : Calls Try.prog 33 #[v] w fun e w' => ∃ v' us, e = .returned v' ∧ OwnRo w.heap.size (Up J w) v' ls us w' ∧ Below w.heap.size w w' := by
  obtain ⟨i0, hi, hz0, hz1, hz2⟩ := info_parts info_r16
  have qn : ∀ (w : World) (a : Option Addr) (n c n' c' : Nat), (binOp .eql 22 (.slice a n c) (.slice none n' c')).run Try.prog w = .ok (.bool a.isNone) w := fun w a n c n' c' => Lib.run_eql_slice_nil w _ 25 a n c n' c' (by kernel_rfl)
  replace hv := rro_up hv
  have hv0 := hv
  rcases hv with ⟨rfl, rfl⟩ | ⟨a, cap, rfl, hcap, hc⟩
  · go_enter Try.func33, Try.ntmps33
    go_wp2_with fail
    go_ret
    exact ⟨_, [], rfl, ⟨World.ownsRow_nil _ _ _ _, rfl, fun i u l h => by simp at h⟩, Below.refl _ _⟩
  · have hb0 := below_new w (.cells #[] 25)
    have hr1 := rro_but hv0 (only_below (J := Up J w) hb0)
    obtain ⟨us, hun, hsrc, hone, hvals⟩ := rro_vals hr1
    have hlit := Lib.hid (row_lit16 w.heap.size w 25 [] (Nat.le_refl _) (Nat.zero_le _))
    have b1 := Lib.hid hb0
    have s1 := Lib.hid hsrc
    have one1 := Lib.hid hone
    have hl1 := Lib.hid (show 0 + us.length ≤ maxLen by unfold maxLen; omega)
    have hl2 := Lib.hid (show (0 + us.length) * 24 ≤ 140737488355328 by omega)
    replace hvals := Lib.hid hvals
    replace hun := Lib.hid hun
    clear hc hv0 hsrc hone hr1 hb0
    go_enter Try.func33, Try.ntmps33
    go_wp2_with (at_builtin; refine wpList_append_src rfl _ _ 22 rfl w.heap.size 25 i0 (.slice none 0 0) 24 Try.underlying22 hi hz0 hz1 hz2 rfl _ _ _ rfl hlit.out _ _ rfl s1.out one1.out hl1.out hl2.out b1.out.size ?_; intro v5 w5 hown5 hgrow5; have o5 := Lib.hid hown5; have b5 := Lib.hid (below_row b1.out hgrow5 b1.out.size hlit.out (Nat.le_refl _)); have O5 := Lib.hid (only_grown (J := Up J w) hgrow5 (row_up16 hlit.out (Nat.le_refl _))); clear hown5 hgrow5)
    go_ret
    refine ⟨_, us, rfl, ⟨?_, hun.out, fun i u l h1 h2 => rio_but (hvals.out i u l h1 h2) O5.out⟩, b5.out⟩
    have := o5.out
    simpa [hun.out] using this
set_option maxHeartbeats 3200000 in
set_option maxRecDepth 100000 in
theorem behind16 (J : Nat → Prop) (v vb : Value) (ls : List (List Int)) (b : List Int) (w : World) (hold : Old J w) (hl : ls.length ≤ 100000) (hv : RRo J w v ls) (hvb : RIo J w vb b) : Calls Try.prog 29 #[v, vb] w fun e w' => ∃ v', e = .returned v' ∧ RRo J w' v' (ls ++ [b]) ∧ Below w.heap.size w w' := by
  obtain ⟨i0, hi, hz0, hz1, hz2⟩ := info_parts info_r16
  obtain ⟨pb, cb, rfl⟩ := ri_form hvb.1
  obtain ⟨p, cap, rfl⟩ := rro_form hv
  have hb1 := below_new w (.cells #[.slice pb b.length cb] 25)
  obtain ⟨us, hun, hsrc, hone, hvals⟩ := rro_vals (rro_but hv (only_below (J := J) hb1))
  have hvb1 := rio_but hvb (only_below (J := J) hb1)
  obtain ⟨_, hcap, hcap0⟩ := rro_cap hv
  have holds : ∀ b', p = some b' → ∀ j u, us[j]? = some u → (w.alloc (.cells #[.slice pb b.length cb] 25)).cell? (b'.add j) = some u := by
    intro b' e j u hu
    subst e
    rcases hsrc with ⟨e, _⟩ | ⟨ad, c, e, hc⟩
    · cases e
    · simp at e
      obtain ⟨rfl, _⟩ := e
      exact hc j u hu
  have hone1 : ∀ (j : Nat) u, ([.slice pb b.length cb] : List Value)[j]? = some u → (w.alloc (.cells #[.slice pb b.length cb] 25)).cell? ((⟨w.heap.size, 0, none⟩ : Addr).add j) = some u := by
    intro j u hu
    match j with
    | 0 =>
      obtain rfl := Option.some.inj hu
      simp [Addr.add]
    | j + 1 => simp at hu
  have hend : ∀ v5 w5, w5.ownsRow (w.alloc (.cells #[.slice pb b.length cb] 25)).heap.size 25 1 v5 (ls.length + 1) (us ++ [.slice pb b.length cb]) → (w.alloc (.cells #[.slice pb b.length cb] 25)).grownBy w5 none → RRo J w5 v5 (ls ++ [b]) ∧ Below w.heap.size w w5 := by
    intro v5 w5 h5 g5
    have O5 := only_grown (J := J) g5 (fun j e => by cases e)
    refine ⟨rro_row (B := w.heap.size) (us := us ++ [.slice pb b.length cb]) ?_ (by simp [hun]) (fun j hj hJ => by have := hold j hJ; omega) (snoc_vals hun (fun i u l h1 h2 => rio_but (hvals i u l h1 h2) O5) (rio_but hvb1 O5)), hb1.grown g5 hb1.size (fun k hk => by cases hk)⟩
    have := row_mono16 h5 (show w.heap.size ≤ _ from hb1.size)
    simpa using this
  obtain ⟨m, hm⟩ : ∃ m, b.length = m := ⟨_, rfl⟩
  obtain ⟨n, hn⟩ : ∃ n, ls.length = n := ⟨_, rfl⟩
  rw [hm] at holds hone1 hend ⊢
  rw [hn] at hend hun hcap hl ⊢
  have hun2 : us.length = n * 1 := by omega
  have hfull : n < n + 1 := by omega
  have hm1 : n + 1 ≤ maxLen := by unfold maxLen; omega
  have hm2 : (n + 1) * 24 ≤ 140737488355328 := by omega
  have hone2 : ∀ u ∈ ([.slice pb m cb] : List Value), u.oneCell' = true := fun u hu => by rw [List.mem_singleton.1 hu]; rfl
  have hq1 : ¬ (cap : Int) < (n : Int) := by omega
  have hq2 : ¬ (n : Int) < 0 := by omega
  have hq3 : (0 : Int) ≤ (n : Int) := by omega
  have hnone : p = none → n = 0 ∧ n = 0 := fun e => by have := hcap0 e; omega
  clear hv hvb hvb1 hvals hone hsrc hb1 hold hn hm
  replace holds := Lib.hid holds
  replace hone1 := Lib.hid hone1
  replace hone2 := Lib.hid hone2
  replace hend := Lib.hid hend
  replace hun2 := Lib.hid hun2
  replace hun := Lib.hid hun
  replace hfull := Lib.hid hfull
  replace hm1 := Lib.hid hm1
  replace hm2 := Lib.hid hm2
  rcases p with _ | p
  · obtain ⟨rfl, _⟩ := hnone rfl
    obtain rfl := hcap0 rfl
    go_enter Try.func29, Try.ntmps29
    go_wp2_with (at_builtin; refine wpList_append_grows _ rfl _ _ 22 rfl 25 i0 (.slice none 0 0) 1 24 Try.underlying22 hi hz0 hz1 hz2 rfl (by decide) none 0 0 us rfl (fun _ => ⟨rfl, rfl⟩) hun2.out holds.out ⟨w.heap.size, 0, none⟩ 1 1 [.slice pb m cb] rfl rfl hone1.out hone2.out hfull.out hm1.out hm2.out ?_; intro v5 w5 ho5 hg5; have e5 := Lib.hid (hend.out v5 w5 ho5 hg5); clear ho5 hg5)
    go_ret
    exact ⟨_, rfl, e5.out⟩
  · replace hnone := Lib.hid hnone
    go_enter Try.func29, Try.ntmps29
    go_wp2_with (at_builtin; refine wpList_append_grows _ rfl _ _ 22 rfl 25 i0 (.slice none 0 0) 1 24 Try.underlying22 hi hz0 hz1 hz2 rfl (by decide) (some p) n n us rfl (fun h => by cases h) hun2.out holds.out ⟨w.heap.size, 0, none⟩ 1 1 [.slice pb m cb] rfl rfl hone1.out hone2.out hfull.out hm1.out hm2.out ?_; intro v5 w5 ho5 hg5; have e5 := Lib.hid (hend.out v5 w5 ho5 hg5); clear ho5 hg5)
    go_ret
    exact ⟨_, rfl, e5.out⟩
end Go.Proofs.Ytcbfgcmdlfediaa
