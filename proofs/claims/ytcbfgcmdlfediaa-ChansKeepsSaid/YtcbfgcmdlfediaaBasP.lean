/- Texts that stand together. -/
import Derived.Test.YtcbfgcmdlfediaaRows
import Derived.WalkKit
import Derived.WalkSpells
import Derived.WalkLawsBesides
import Derived.Deep.QuietTactic
import Derived.BigQuiet
import Derived.Lib.Hide
import Derived.Laws.AppendOwnNone
import Derived.LoopTactic
/- Base of every layer: small words over any translation. -/
namespace Go.Proofs.Ytcbfgcmdlfediaa
set_option linter.unusedSimpArgs false
set_option linter.unusedVariables false
open Go.RowKit Go.Lib
theorem ret_bool {a b : Bool} (h : a = b) : Ending.returned (.bool a) = .returned (.bool b) := by rw [h]
theorem below_new (w : World) (o : Obj) : Below w.heap.size w (w.alloc o) := (Below.refl _ _).alloc (Nat.le_refl _) _
theorem drewN_below (w : World) (n : Nat) : Below w.heap.size w (w.drewN n) := ⟨rfl, rfl, rfl, Nat.le_refl _, fun _ _ => rfl⟩
theorem beq_nat_int {a b : Nat} (h : a = b) : ((a : Int) == (b : Int)) = true := by subst h; exact beq_self_eq_true _
theorem bne_nat_int {a b : Nat} (h : ¬ a = b) : ((a : Int) == (b : Int)) = false := beq_eq_false_iff_ne.2 (by omega)
end Go.Proofs.Ytcbfgcmdlfediaa

/- Base of every layer: a block of some cells that the call made, known whole. -/
namespace Go.Proofs.Ytcbfgcmdlfediaa
set_option linter.unusedSimpArgs false
set_option linter.unusedVariables false
open Go.RowKit Go.Lib
def Blk (w : World) (k : Nat) (cs : Array Value) (T : TypeId) : Prop := w.heap[k]? = some (.cells cs T)
theorem blk_lt {w : World} {k : Nat} {cs : Array Value} {T : TypeId} (h : Blk w k cs T) : k < w.heap.size := (Array.getElem?_eq_some_iff.1 h).1
theorem blk_new (w : World) (cs : Array Value) (T : TypeId) : Blk (w.alloc (.cells cs T)) w.heap.size cs T := heap_alloc_new w _
theorem blk_below {w w1 : World} {k : Nat} {cs : Array Value} {T : TypeId} (h : Blk w k cs T) (hb : Below w.heap.size w w1) : Blk w1 k cs T := by
  unfold Blk at *
  rw [hb.block k (blk_lt h)]
  exact h
theorem blk_alloc {w : World} {k : Nat} {cs : Array Value} {T : TypeId} (h : Blk w k cs T) (o : Obj) : Blk (w.alloc o) k cs T := blk_below h (below_new w o)
theorem blk_cell {w : World} {k : Nat} {cs : Array Value} {T : TypeId} (h : Blk w k cs T) (i : Nat) (v : Value) (hv : cs[i]? = some v) : w.cell? ⟨k, i, none⟩ = some v := by
  unfold Blk at h
  simp [World.cell?, h, hv]
theorem blk_thaw {w : World} {k : Nat} {cs : Array Value} {T : TypeId} (h : Blk w k cs T) (i : Nat) : w.frozen? ⟨k, i, none⟩ = false := by
  unfold Blk at h
  simp [World.frozen?, h]
end Go.Proofs.Ytcbfgcmdlfediaa

/- Small laws of our own over any program: an append onto a slice of the call's own of whatever slice (nil or not), elements of one cell. -/
namespace Go.Proofs.Ytcbfgcmdlfediaa
set_option linter.unusedSimpArgs false
set_option linter.unusedVariables false
open Go Go.RowKit
/-- what an append reads: nil, or a row of these cells -/
def Src (w : World) (x : Value) (news : List Value) : Prop :=
  (x = .slice none 0 0 ∧ news = []) ∨ ∃ ad c, x = .slice (some ad) news.length c ∧ ∀ j u, news[j]? = some u → w.cell? (ad.add j) = some u
theorem wpList_append_src {P : Program} {w : World} {ops : Array Oper} {rest : List Oper} {o : Oper} {a : Act} {Q : Exit → Act → World → Prop} (hgd : o.guard = none) (s x : Operand) (t : TypeId)
    (ho : o.op = .call { callee := .builtin .append, args := #[s, x], argTypes := #[t, t] })
    (base : Nat) (e : TypeId) (i : TypeInfo) (z : Value) (bytes : Nat) (ht : P.underlying t = some (.slice e)) (hi : P.info? e = some i) (hz : i.zero = some z)
    (hsize : i.size = 1) (hby : i.bytes = bytes) (hzs : z.cells.size = 1)
    (v : Value) (n : Nat) (xs : List Value) (hs : a.eval s = v) (hown : w.ownsRow base e 1 v n xs)
    (xv : Value) (news : List Value) (hx : a.eval x = xv) (hsrc : Src w xv news) (h1 : ∀ u ∈ news, u.oneCell' = true)
    (h63 : n + news.length ≤ maxLen) (hbytes : (n + news.length) * bytes ≤ 140737488355328) (hbase : base ≤ w.heap.size)
    (h : ∀ v' w', w'.ownsRow base e 1 v' (n + news.length) (xs ++ news) → w.grownBy w' v.ownBlock → wpList P ops Q rest (a.put o.dst v') w') : wpList P ops Q (o :: rest) a w := by
  rcases hsrc with ⟨rfl, rfl⟩ | ⟨ad, c, rfl, hc⟩
  · refine wpList_append_own_none hgd s x t ho base e i 1 ht hi v n xs hs hown hx ?_
    exact h v w (by simpa using hown) ⟨rfl, rfl, rfl, Nat.le_refl _, fun _ _ _ => rfl⟩
  · exact wpList_append_own w hgd s x t ho base e i z 1 bytes ht hi hz hsize hby hzs (by decide) v n xs hs hown ad news.length c news hx (by simp) hc h1 h63 hbytes hbase fun v' w' g1 g2 _ => h v' w' g1 g2
theorem below_row {B B' : Nat} {w0 w w1 : World} {v : Value} {e : TypeId} {size n : Nat} {xs : List Value} (h : Below B w0 w) (hg : w.grownBy w1 v.ownBlock) (hB : B ≤ w.heap.size) (ho : w.ownsRow B' e size v n xs) (hBB : B ≤ B') : Below B w0 w1 :=
  h.grown hg hB (fun k hk => Nat.le_trans hBB (World.ownsRow.lt ho k hk).1)
end Go.Proofs.Ytcbfgcmdlfediaa

/- Base of every layer: slices of whole numbers that a call reads or owns, over any translation that has them. -/
namespace Go.Proofs.Ytcbfgcmdlfediaa
set_option linter.unusedSimpArgs false
set_option linter.unusedVariables false
open Go.RowKit Go.Lib
abbrev cellsI (l : List Int) : List Value := l.map (Value.int .i64)
/-- a slice value that reads as these numbers -/
def RI (w : World) (v : Value) (l : List Int) : Prop :=
  (v = .slice none 0 0 ∧ l = []) ∨ ∃ a cap, v = .slice (some a) l.length cap ∧ l.length ≤ cap ∧ (0 < l.length → ∃ b off, a = ⟨b, off, none⟩ ∧ b < w.heap.size ∧ ∀ i (h : i < l.length), w.cell? ⟨b, off + i, none⟩ = some (.int .i64 l[i]))
theorem ri_nil (w : World) : RI w (.slice none 0 0) [] := .inl ⟨rfl, rfl⟩
theorem ri_at {w : World} {p : Option Addr} {n cap : Nat} {l : List Int} (h : RI w (.slice p n cap) l) (hl : 0 < l.length) : ∃ b off, p = some ⟨b, off, none⟩ ∧ b < w.heap.size ∧ ∀ i (h : i < l.length), w.cell? ⟨b, off + i, none⟩ = some (.int .i64 l[i]) := by
  rcases h with ⟨_, rfl⟩ | ⟨a, cap', he, _, h⟩
  · simp at hl
  · simp at he
    obtain ⟨rfl, _, _⟩ := he
    obtain ⟨b, off, rfl, h1, h2⟩ := h hl
    exact ⟨b, off, rfl, h1, h2⟩
theorem ri_form {w : World} {v : Value} {l : List Int} (h : RI w v l) : ∃ p cap, v = .slice p l.length cap := by
  rcases h with ⟨rfl, rfl⟩ | ⟨a, cap, rfl, _⟩
  · exact ⟨none, 0, rfl⟩
  · exact ⟨_, _, rfl⟩
theorem ri_below {w w1 : World} {v : Value} {l : List Int} (h : RI w v l) (hb : Below w.heap.size w w1) : RI w1 v l := by
  rcases h with h | ⟨a, c, rfl, hcap, h⟩
  · exact .inl h
  · refine .inr ⟨a, c, rfl, hcap, fun hl => ?_⟩
    obtain ⟨b, o, rfl, h1, h2⟩ := h hl
    exact ⟨b, o, rfl, Nat.lt_of_lt_of_le h1 hb.size, fun i hi => by rw [hb.cell h1]; exact h2 i hi⟩
/-- what an append reads of such slices -/
theorem ri_src {w : World} {v : Value} {l : List Int} (h : RI w v l) : Src w v (cellsI l) := by
  rcases h with ⟨rfl, rfl⟩ | ⟨a, cap, rfl, _, h⟩
  · exact .inl ⟨rfl, rfl⟩
  · refine .inr ⟨a, cap, by rw [List.length_map], fun j u hu => ?_⟩
    have hj : j < l.length := by
      rcases Nat.lt_or_ge j l.length with hj | hj
      · exact hj
      · rw [List.getElem?_eq_none (by simpa using hj)] at hu
        cases hu
    obtain ⟨b, off, rfl, _, hc⟩ := h (by omega)
    have hadd : (⟨b, off, none⟩ : Addr).add j = ⟨b, off + j, none⟩ := by unfold Addr.add; split <;> simp_all
    rw [hadd, hc j hj]
    simpa [hj] using hu
theorem info_i : (Try.prog.info? 3).map (fun i => (i.zero, i.size, i.bytes)) = some (some (.int .i64 0), 1, 8) := by kernel_rfl
theorem oneCellI (l : List Int) : ∀ u ∈ cellsI l, u.oneCell' = true := by
  intro u hu
  obtain ⟨x, _, rfl⟩ := List.mem_map.1 hu
  rfl
/-- the slice value v is the call's own (from block B on), and holds these numbers -/
def OwnI (B : Nat) (v : Value) (l : List Int) (w : World) : Prop := w.ownsRow B 3 1 v l.length (cellsI l)
theorem ownI_nil (B : Nat) (w : World) : OwnI B (.slice none 0 0) [] w := World.ownsRow_nil w B 3 1
/-- a literal of these numbers, just made -/
theorem ownI_lit (B : Nat) (w : World) (l : List Int) (cs : Array Value) (k n : Nat) (hk : w.heap.size = k) (hB : B ≤ k) (hcs : cs.toList = cellsI l) (hn : n = l.length) (hm : n ≤ maxLen) :
    OwnI B (.slice (some ⟨k, 0, none⟩) n n) l (w.alloc (.cells cs 3)) := by
  subst hk
  subst hn
  have hs : cs.size = l.length := by rw [← Array.length_toList, hcs, List.length_map]
  refine ⟨by simp, .inr ⟨w.heap.size, l.length, cs, rfl, hB, heap_alloc_new w _, Nat.le_refl _, hm, by rw [hs, Nat.mul_one], ?_⟩⟩
  rw [hcs, Nat.mul_one]
  exact List.take_of_length_le (by simp)
theorem ownI_of_row {B n : Nat} {v : Value} {l : List Int} {xs : List Value} {w : World} (h : w.ownsRow B 3 1 v n xs) (hn : n = l.length) (hx : xs = cellsI l) : OwnI B v l w := by
  subst hn
  subst hx
  exact h
theorem ownI_below {B : Nat} {v : Value} {l : List Int} {w w1 : World} (h : OwnI B v l w) (hb : Below w.heap.size w w1) : OwnI B v l w1 := by
  refine ⟨h.1, ?_⟩
  rcases h.2 with hn | ⟨g, cap, cur, hv, hg, hh, r⟩
  · exact .inl hn
  · exact .inr ⟨g, cap, cur, hv, hg, by rw [hb.block g (Array.getElem?_eq_some_iff.1 hh).1]; exact hh, r⟩
theorem ownI_mono {B B' : Nat} {v : Value} {l : List Int} {w : World} (h : OwnI B' v l w) (hB : B ≤ B') : OwnI B v l w := by
  refine ⟨h.1, ?_⟩
  rcases h.2 with hn | ⟨g, cap, cur, hv, hg, r⟩
  · exact .inl hn
  · exact .inr ⟨g, cap, cur, hv, Nat.le_trans hB hg, r⟩
theorem ownI_set {B : Nat} {v : Value} {l : List Int} {w : World} (h : OwnI B v l w) (a : Addr) (u : Value) (hne : v.ownBlock = none ∨ v.ownBlock ≠ some a.block) : OwnI B v l (w.setCell a u) := by
  refine World.ownsRow.kept (row := some a.block) h ⟨rfl, rfl, rfl, by simp [World.setCell], fun k _ hk => ?_⟩ hne
  exact Below.heap_setCell _ _ _ _ (fun e => hk (by rw [e]))
theorem ownI_lt {B : Nat} {v : Value} {l : List Int} {w : World} (h : OwnI B v l w) (k : Nat) (hk : v.ownBlock = some k) : B ≤ k := (World.ownsRow.lt h k hk).1
theorem ri_of_own {B : Nat} {v : Value} {l : List Int} {w : World} (h : OwnI B v l w) : RI w v l := by
  have hc := fun g hg => World.ownsRow.cells (g := g) h hg
  have hlt := World.ownsRow.lt h
  rcases h.2 with ⟨rfl, hl⟩ | ⟨g, cap, cur, rfl, hB, _, hncap, _⟩
  · exact .inl ⟨rfl, List.eq_nil_of_length_eq_zero hl⟩
  · refine .inr ⟨⟨g, 0, none⟩, cap, rfl, hncap, fun _ => ⟨g, 0, rfl, (hlt g rfl).2, fun i hi => ?_⟩⟩
    have h := hc g rfl i (.int .i64 l[i]) (by simp [hi])
    have hadd : (⟨g, 0, none⟩ : Addr).add i = ⟨g, i, none⟩ := by unfold Addr.add; split <;> simp_all
    rw [hadd] at h
    simpa using h
/-- .. in memory of its own -/
def Makes (l : List Int) (w : World) (e : Ending) (w' : World) : Prop := ∃ v, e = .returned v ∧ OwnI w.heap.size v l w' ∧ Below w.heap.size w w'
theorem below_on {w w1 w2 : World} (h1 : Below w.heap.size w w1) (h2 : Below w1.heap.size w1 w2) : Below w.heap.size w w2 := h1.trans (h2.mono h1.size)
end Go.Proofs.Ytcbfgcmdlfediaa

/- The contract of the verifier's Same, in any layer. -/
namespace Go.Proofs.Ytcbfgcmdlfediaa
set_option linter.unusedSimpArgs false
set_option linter.unusedVariables false
open Go.RowKit Go.Lib
/-- are lists the same? -/
def sameB (a b : List Int) : Bool := decide (a = b)
theorem bne_nat_int' {a b : Nat} (h : a = b) : ((a : Int) != (b : Int)) = false := by subst h; simp
def SameRel (w : World) (l m : List Int) (k : Nat) (wr : World) : Prop := l.take k = m.take k ∧ ∃ n, wr = w.drewN n
theorem take_eq_succ {l m : List Int} {k : Nat} (h1 : k < l.length) (h2 : k < m.length) (h : l.take k = m.take k) (hx : l[k] = m[k]) : l.take (k + 1) = m.take (k + 1) := by
  rw [List.take_succ_eq_append_getElem h1, List.take_succ_eq_append_getElem h2, h, hx]
set_option maxHeartbeats 800000 in
theorem same_some (b1 o1 c1 b2 o2 c2 : Nat) (l m : List Int) (w : World) (hl : l.length ≤ 100000) (hlm : l.length = m.length)
    (h1 : ∀ i (h : i < l.length), w.cell? ⟨b1, o1 + i, none⟩ = some (.int .i64 l[i])) (h2 : ∀ i (h : i < m.length), w.cell? ⟨b2, o2 + i, none⟩ = some (.int .i64 m[i])) :
    Calls Try.prog 17 #[.slice (some ⟨b1, o1, none⟩) l.length c1, .slice (some ⟨b2, o2, none⟩) m.length c2] w fun e w' => e = .returned (.bool (sameB l m)) ∧ ∃ n, w' = w.drewN n := by
  have e1 := beq_nat_int hlm
  have e3 := bne_nat_int' hlm
  have h1 := Lib.hid h1
  have h2 := Lib.hid h2
  have hlm' := Lib.hid hlm
  clear hlm
  go_enter Try.func17, Try.ntmps17
  go_wp2_with fail
  go_loopw [5] (fun i wr => ∃ k : Nat, k ≤ l.length ∧ i = .int .i64 k ∧ SameRel w l m k wr) (fun i _ => l.length - (RowKit.intOf i).toNat)
  case atStart => exact ⟨0, Nat.zero_le _, rfl, rfl, 0, rfl⟩
  case round =>
    obtain ⟨k, hk, rfl, hr⟩ := hrel
    obtain ⟨hr0, n, rfl⟩ := hr
    have hr0 := Lib.hid hr0
    by_cases hlt : k < l.length
    · have hlt2 : k < m.length := by have := hlm'.out; omega
      obtain ⟨x, hx⟩ : ∃ x, l[k] = x := ⟨_, rfl⟩
      obtain ⟨y, hy⟩ : ∃ y, m[k] = y := ⟨_, rfl⟩
      have hc1 : (w.drewN n).cell? ⟨b1, o1 + k, none⟩ = some (.int .i64 x) := by rw [← hx]; exact h1.out k hlt
      have hc2 : (w.drewN n).cell? ⟨b2, o2 + k, none⟩ = some (.int .i64 y) := by rw [← hy]; exact h2.out k hlt2
      have hx := Lib.hid hx
      have hy := Lib.hid hy
      have hi1 : (k : Int) < (l.length : Int) := by omega
      have hi2 : (k : Int) < (m.length : Int) := by omega
      by_cases hxy : x = y
      · have f1 : (x == y) = true := beq_iff_eq.2 hxy
        have f2 : (x != y) = false := by simp [hxy]
        have hst := Lib.hid (take_eq_succ hlt hlt2 hr0.out (hx.out.trans (hxy.trans hy.out.symm)))
        clear hxy
        go_wp2_with fail
        go_quiet (fail)
        go_wp2_with fail
        go_roundw
        case rel => exact ⟨k + 1, by omega, by go_num, hst.out, _, by first | rfl | exact World.drewN_drewN _ _ _⟩
        case measure => simp [RowKit.intOf]; omega
      · have f1 : (x == y) = false := beq_eq_false_iff_ne.2 hxy
        have f2 : (x != y) = true := by simp [hxy]
        have hst : sameB l m = false := by
          unfold sameB
          refine decide_eq_false fun e => hxy ?_
          subst e
          exact hx.out.symm.trans hy.out
        have hst := Lib.hid hst
        clear hxy
        go_wp2_with fail
        go_quiet (fail)
        go_wp2_with fail
        go_ret
        exact ⟨ret_bool hst.out.symm, _, by first | rfl | exact World.drewN_drewN _ _ _⟩
    · have hst : sameB l m = true := by
        unfold sameB
        have h0 := hr0.out
        have hk2 : k = l.length := by omega
        subst hk2
        rw [List.take_length, List.take_of_length_le (by have := hlm'.out; omega)] at h0
        exact decide_eq_true h0
      have hst := Lib.hid hst
      go_wp2_with fail
      go_ret
      exact ⟨ret_bool hst.out.symm, n, rfl⟩
set_option maxHeartbeats 800000 in
/-- lists of two lengths -/
theorem same_lens (v1 v2 : Option Addr) (n m c1 c2 : Nat) (w : World) (hlm : ¬ n = m) :
    Calls Try.prog 17 #[.slice v1 n c1, .slice v2 m c2] w fun e w' => e = .returned (.bool false) ∧ w = w' := by
  have e1 := bne_nat_int hlm
  have e3 : ((n : Int) != (m : Int)) = true := by simp; omega
  clear hlm
  go_enter Try.func17, Try.ntmps17
  go_wp2_with fail
  go_ret
  exact ⟨rfl, rfl⟩
set_option maxHeartbeats 800000 in
/-- two empty lists -/
theorem same_empty (v1 v2 : Option Addr) (c1 c2 : Nat) (w : World) :
    Calls Try.prog 17 #[.slice v1 0 c1, .slice v2 0 c2] w fun e w' => e = .returned (.bool true) ∧ w = w' := by
  go_enter Try.func17, Try.ntmps17
  go_wp2_with fail
  refine wp_loop_rounds 1 ?_
  rw [rounds_succ]
  go_wp2_with fail
  go_ret
  exact ⟨rfl, rfl⟩
/-- Same, of whatever lists -/
theorem same_any (v1 v2 : Value) (l m : List Int) (w : World) (hl : l.length ≤ 100000) (h1 : RI w v1 l) (h2 : RI w v2 m) :
    Calls Try.prog 17 #[v1, v2] w fun e w' => e = .returned (.bool (sameB l m)) ∧ ∃ n, w' = w.drewN n := by
  have key : ∀ (a1 a2 : Option Addr) (k1 k2 : Nat), l.length ≠ m.length → Calls Try.prog 17 #[.slice a1 l.length k1, .slice a2 m.length k2] w fun e w' => e = .returned (.bool (sameB l m)) ∧ ∃ n, w' = w.drewN n := by
    intro a1 a2 k1 k2 hne
    have : sameB l m = false := decide_eq_false fun e => hne (by rw [e])
    rw [this]
    exact (same_lens a1 a2 _ _ k1 k2 w hne).mono fun e w' ⟨p, q⟩ => ⟨p, 0, q.symm⟩
  obtain ⟨p1, c1, rfl⟩ := ri_form h1
  obtain ⟨p2, c2, rfl⟩ := ri_form h2
  by_cases hlm : l.length = m.length
  · cases l with
    | nil =>
      cases m with
      | nil => exact (same_empty p1 p2 c1 c2 w).mono fun e w' ⟨p, q⟩ => ⟨p, 0, q.symm⟩
      | cons y m => simp at hlm
    | cons x l =>
      obtain ⟨b1, o1, rfl, _, g1⟩ := ri_at h1 (by simp)
      obtain ⟨b2, o2, rfl, _, g2⟩ := ri_at h2 (by rw [← hlm]; simp)
      exact same_some b1 o1 c1 b2 o2 c2 (x :: l) m w hl hlm g1 g2
  · exact key _ _ c1 c2 hlm
end Go.Proofs.Ytcbfgcmdlfediaa

/- Small laws of every layer: a list against itself; whole numbers that an int holds. -/
namespace Go.Proofs.Ytcbfgcmdlfediaa
set_option linter.unusedSimpArgs false
set_option linter.unusedVariables false
open Go.RowKit Go.Lib
theorem same_self (v1 v2 : Value) (l : List Int) (w : World) (hl : l.length ≤ 100000) (h1 : RI w v1 l) (h2 : RI w v2 l) :
    Calls Try.prog 17 #[v1, v2] w fun e w' => e = .returned (.bool true) ∧ Below w.heap.size w w' := by
  refine (same_any v1 v2 l l w hl h1 h2).mono ?_
  rintro e w' ⟨rfl, n, rfl⟩
  exact ⟨by rw [show sameB l l = true from decide_eq_true rfl], drewN_below w n⟩
theorem same_eq (v1 v2 : Value) (l m : List Int) (w : World) (he : l = m) (hl : l.length ≤ 100000) (h1 : RI w v1 l) (h2 : RI w v2 m) :
    Calls Try.prog 17 #[v1, v2] w fun e w' => e = .returned (.bool true) ∧ Below w.heap.size w w' := by
  subst he
  exact same_self v1 v2 l w hl h1 h2
/-- numbers that an int holds -/
def WfI (l : List Int) : Prop := ∀ x ∈ l, -9223372036854775808 ≤ x ∧ x ≤ 9223372036854775807
end Go.Proofs.Ytcbfgcmdlfediaa

