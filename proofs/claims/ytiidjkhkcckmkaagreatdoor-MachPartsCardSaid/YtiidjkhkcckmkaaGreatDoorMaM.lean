/- Layer 15, plain mathematics: the five machines of a pipe, item by item. -/
import Derived.Test.YtiidjkhkcckmkaaGreatDoorMatQ
namespace Go.Proofs.YtiidjkhkcckmkaaGreatDoor.Mch
set_option linter.unusedSimpArgs false
set_option linter.unusedVariables false
open Clu (CS zero)
open Nfk Fol
/-- a machine: its kind, the bytes of Decode, the values of Norm and Fold, Segment's cluster and what is known, Framer's values -/
structure MS where
  kind : Int
  d : List UInt8
  n : List Int
  g : List Int
  s : CS
  c : List Int
deriving DecidableEq
def bare (k : Int) : MS := ⟨k, [], [], [], zero, []⟩
def newM (k : Int) : MS := bare (if 0 ≤ k ∧ k ≤ 4 then k else 0)
def saneM (m : MS) : Bool :=
  decide (0 ≤ m.kind ∧ m.kind ≤ 4) && Dec.saneL m.d && Nor.saneB m.n && Sgm.saneB m.g m.s && decide (m.c.length ≤ 32) && m.c.all (fun x => decide (x ≠ -1)) &&
  (decide (m.kind = 0) || m.d.isEmpty) && (decide (m.kind = 1) || decide (m.kind = 2) || m.n.isEmpty) && (decide (m.kind = 3) || (m.g.isEmpty && !m.s.on)) && (decide (m.kind = 4) || m.c.isEmpty)
def asM (m : MS) : MS := if saneM m = true then m else newM m.kind
/-- bytes as items -/
def itemsOf (b : List UInt8) : List Int := b.map fun c => (c.toNat : Int)
def cutOf (c : List Int) : List Int := if c = [] then [] else c ++ [-1]
def byteOf (x : Int) : UInt8 := UInt8.ofNat (x % 256).toNat
def feedK (m : MS) (x : Int) : MS × List Int :=
  if m.kind = 0 then ({ bare 0 with d := (Dec.feedL m.d (byteOf x)).1 }, (Dec.feedL m.d (byteOf x)).2)
  else if m.kind = 1 then ({ bare 1 with n := (Nor.feedI m.n x).1 }, (Nor.feedI m.n x).2)
  else if m.kind = 2 then ({ bare 2 with n := (Fol.feedI m.n x).1 }, (Fol.feedI m.n x).2)
  else if m.kind = 3 then ({ bare 3 with g := (Sgm.feedI m.g m.s x).1.1, s := (Sgm.feedI m.g m.s x).1.2 }, cutOf (Sgm.feedI m.g m.s x).2)
  else if x = -1 then (bare 4, itemsOf (Frm.putF m.c))
  else if m.c.length = 32 then (m, [])
  else ({ bare 4 with c := m.c ++ [x] }, [])
def feedM (m : MS) (x : Int) : MS × List Int := feedK (asM m) x
def endK (m : MS) : List Int :=
  if m.kind = 0 then Dec.endLL m.d else if m.kind = 1 ∨ m.kind = 2 then Nor.endI m.n else if m.kind = 3 then cutOf (Sgm.endI m.g m.s) else []
def endM (m : MS) : MS × List Int := (newM (asM m).kind, endK (asM m))
def costM (m : MS) : Nat := if saneM m = true then m.d.length + m.n.length + m.g.length + m.c.length else 0
/-- items fed, one behind the other -/
def feedsM : MS → List Int → MS × List Int
  | m, [] => (m, [])
  | m, x :: t => ((feedsM (feedM m x).1 t).1, (feedM m x).2 ++ (feedsM (feedM m x).1 t).2)
def allM (k : Int) (l : List Int) : List Int := (feedsM (newM k) l).2 ++ (endM (feedsM (newM k) l).1).2
theorem feeds_app (m : MS) (a b : List Int) : feedsM m (a ++ b) = ((feedsM (feedsM m a).1 b).1, (feedsM m a).2 ++ (feedsM (feedsM m a).1 b).2) := by
  induction a generalizing m with
  | nil => simp [feedsM]
  | cons x t ih => simp only [List.cons_append, feedsM]; rw [ih]; simp
/-- what was told is told -/
theorem told_begins (k : Int) (a b : List Int) : (feedsM (newM k) a).2 <+: allM k (a ++ b) := by
  unfold allM
  rw [feeds_app]
  simp only [List.append_assoc]
  exact List.prefix_append _ _
theorem sane_bare {k : Int} (h : 0 ≤ k ∧ k ≤ 4) : saneM (bare k) = true := by
  have h1 : Nor.saneB [] = true := by decide
  have h2 : Sgm.saneB [] zero = true := by decide
  have h3 : Dec.saneL [] = true := rfl
  unfold saneM bare
  simp [h, h1, h2, h3]
  exact .inr rfl
theorem new_kind (k : Int) : 0 ≤ (newM k).kind ∧ (newM k).kind ≤ 4 := by
  unfold newM bare
  simp only
  split <;> omega
theorem new_sane (k : Int) : saneM (newM k) = true := by
  have := new_kind k
  unfold newM at this ⊢
  exact sane_bare this
theorem as_sane (m : MS) : saneM (asM m) = true := by
  unfold asM
  split
  · assumption
  · exact new_sane _
theorem as_same {m : MS} (h : saneM m = true) : asM m = m := by unfold asM; rw [if_pos h]
structure Sane (m : MS) : Prop where
  kind : 0 ≤ m.kind ∧ m.kind ≤ 4
  d : Dec.saneL m.d = true
  n : Nor.saneB m.n = true
  g : Sgm.saneB m.g m.s = true
  c : m.c.length ≤ 32
  cut : ∀ x ∈ m.c, x ≠ -1
  d0 : m.kind = 0 ∨ m.d = []
  n0 : m.kind = 1 ∨ m.kind = 2 ∨ m.n = []
  g0 : m.kind = 3 ∨ (m.g = [] ∧ m.s.on = false)
  c0 : m.kind = 4 ∨ m.c = []
theorem sane_iff (m : MS) : saneM m = true ↔ Sane m := by
  unfold saneM
  simp only [Bool.and_eq_true, Bool.or_eq_true, decide_eq_true_eq, List.all_eq_true, List.isEmpty_iff, Bool.not_eq_true']
  constructor
  · rintro ⟨⟨⟨⟨⟨⟨⟨⟨⟨a, b⟩, c⟩, d⟩, e⟩, f⟩, g⟩, h⟩, i⟩, j⟩
    exact ⟨a, b, c, d, e, f, g, by rcases h with (h | h) | h; exact .inl h; exact .inr (.inl h); exact .inr (.inr h), i, j⟩
  · rintro ⟨a, b, c, d, e, f, g, h, i, j⟩
    exact ⟨⟨⟨⟨⟨⟨⟨⟨⟨a, b⟩, c⟩, d⟩, e⟩, f⟩, g⟩, by rcases h with h | h | h; exact .inl (.inl h); exact .inl (.inr h); exact .inr h⟩, i⟩, j⟩
theorem kind_cases {m : MS} (h : Sane m) : m.kind = 0 ∨ m.kind = 1 ∨ m.kind = 2 ∨ m.kind = 3 ∨ m.kind = 4 := by have := h.kind; omega
theorem nor0 : Nor.saneB [] = true := by decide
theorem seg0 : Sgm.saneB [] zero = true := by decide
theorem feedK_sane {m : MS} (h : Sane m) (x : Int) : Sane (feedK m x).1 ∧ (feedK m x).1.kind = m.kind := by
  unfold feedK
  rcases kind_cases h with hk | hk | hk | hk | hk
  · rw [if_pos hk]
    refine ⟨⟨by simp [bare], ?_, nor0, seg0, by simp [bare], (by intro y hy; cases hy), .inl rfl, .inr (.inr rfl), .inr ⟨rfl, rfl⟩, .inr rfl⟩, hk.symm⟩
    exact Dec.feedL_sane m.d (byteOf x)
  · rw [if_neg (by omega), if_pos hk]
    refine ⟨⟨by simp [bare], rfl, Nor.kept_sane (Nor.kept_feed m.n x), seg0, by simp [bare], (by intro y hy; cases hy), .inr rfl, .inl rfl, .inr ⟨rfl, rfl⟩, .inr rfl⟩, hk.symm⟩
  · rw [if_neg (by omega), if_neg (by omega), if_pos hk]
    refine ⟨⟨by simp [bare], rfl, Nor.kept_sane (Fol.feed_kept m.n x), seg0, by simp [bare], (by intro y hy; cases hy), .inr rfl, .inr (.inl rfl), .inr ⟨rfl, rfl⟩, .inr rfl⟩, hk.symm⟩
  · rw [if_neg (by omega), if_neg (by omega), if_neg (by omega), if_pos hk]
    refine ⟨⟨by simp [bare], rfl, nor0, Sgm.feed_sane m.g m.s x, by simp [bare], (by intro y hy; cases hy), .inr rfl, .inr (.inr rfl), .inl rfl, .inr rfl⟩, hk.symm⟩
  · rw [if_neg (by omega), if_neg (by omega), if_neg (by omega), if_neg (by omega)]
    split
    · exact ⟨(sane_iff _).1 (sane_bare (by omega)), hk.symm⟩
    · rename_i hx
      split
      · exact ⟨h, rfl⟩
      · rename_i hl
        refine ⟨⟨by simp [bare], rfl, nor0, seg0, ?_, ?_, .inr rfl, .inr (.inr rfl), .inr ⟨rfl, rfl⟩, .inl rfl⟩, hk.symm⟩
        · have := h.c; simp; omega
        · intro y hy
          rcases List.mem_append.1 hy with hy | hy
          · exact h.cut y hy
          · obtain rfl : y = x := by simpa using hy
            exact hx
theorem feed_sane (m : MS) (x : Int) : saneM (feedM m x).1 = true ∧ (feedM m x).1.kind = (asM m).kind := by
  have h := (sane_iff _).1 (as_sane m)
  obtain ⟨a, b⟩ := feedK_sane h x
  exact ⟨(sane_iff _).2 a, b⟩
theorem sane_cost {m : MS} (h : Sane m) : m.d.length + m.n.length + m.g.length + m.c.length ≤ 32 := by
  have h1 := Dec.saneL_len h.d
  have h2 := Nor.kept_len (Nor.sane_kept h.n)
  have h3 : m.g.length ≤ 32 := by
    have := h.g
    unfold Sgm.saneB at this
    simp only [Bool.and_eq_true, decide_eq_true_eq] at this
    exact this.1.1
  have h4 := h.c
  rcases kind_cases h with hk | hk | hk | hk | hk
  · have a := (h.n0.resolve_left (by omega)).resolve_left (by omega)
    have b := (h.g0.resolve_left (by omega)).1
    have c := h.c0.resolve_left (by omega)
    rw [a, b, c]; simp; omega
  · have a := h.d0.resolve_left (by omega)
    have b := (h.g0.resolve_left (by omega)).1
    have c := h.c0.resolve_left (by omega)
    rw [a, b, c]; simp; omega
  · have a := h.d0.resolve_left (by omega)
    have b := (h.g0.resolve_left (by omega)).1
    have c := h.c0.resolve_left (by omega)
    rw [a, b, c]; simp; omega
  · have a := (h.n0.resolve_left (by omega)).resolve_left (by omega)
    have b := h.d0.resolve_left (by omega)
    have c := h.c0.resolve_left (by omega)
    rw [a, b, c]; simp; omega
  · have a := (h.n0.resolve_left (by omega)).resolve_left (by omega)
    have b := (h.g0.resolve_left (by omega)).1
    have c := h.d0.resolve_left (by omega)
    rw [a, b, c]; simp; omega
theorem cost_le (m : MS) : costM m ≤ 32 := by
  unfold costM
  split
  · rename_i h; exact sane_cost ((sane_iff _).1 h)
  · omega
theorem cost_new (k : Int) : costM (newM k) = 0 := by
  unfold costM
  rw [if_pos (new_sane k)]
  rfl
theorem cut_len (c : List Int) : (cutOf c).length ≤ c.length + 1 := by unfold cutOf; split <;> simp
theorem putF_len (c : List Int) : (Frm.putF c).length ≤ 4 * c.length + 4 := by
  unfold Frm.putF
  split
  · simp
  · rename_i h
    have hb : (Dec.textL c).length ≤ 268435455 := by
      have : ¬ Frm.big < (Dec.textL c).length := fun h1 => h (.inr h1)
      unfold Frm.big at this
      omega
    have h1 := Dec.textL_len c
    have h2 := Var.put_len_le _ hb
    unfold Frm.frameOf
    simp
    omega
theorem seg_told (c : List Int) (s : CS) (x : Int) (h : Sgm.saneB c s = true) : (Sgm.feedI c s x).2.length ≤ 32 := by
  have hc : c.length ≤ 32 := by
    unfold Sgm.saneB at h
    simp only [Bool.and_eq_true, decide_eq_true_eq] at h
    exact h.1.1
  unfold Sgm.feedI
  rw [if_pos h]
  unfold Sgm.stepI
  split
  · exact hc
  · simp
theorem feedK_told {m : MS} (h : Sane m) (x : Int) : (feedK m x).2.length ≤ 140 := by
  unfold feedK
  rcases kind_cases h with hk | hk | hk | hk | hk
  · rw [if_pos hk]
    have h1 := Dec.feedL_cnt m.d (byteOf x)
    have h2 : Dec.cnt m.d ≤ 1 := by unfold Dec.cnt; split <;> omega
    simp only
    omega
  · rw [if_neg (by omega), if_pos hk]
    have := Nor.feed_told m.n x
    simp only
    omega
  · rw [if_neg (by omega), if_neg (by omega), if_pos hk]
    have := Fol.feed_told m.n x
    simp only
    omega
  · rw [if_neg (by omega), if_neg (by omega), if_neg (by omega), if_pos hk]
    have h1 := seg_told m.g m.s x h.g
    have h2 := cut_len (Sgm.feedI m.g m.s x).2
    simp only
    omega
  · rw [if_neg (by omega), if_neg (by omega), if_neg (by omega), if_neg (by omega)]
    split
    · have h1 := putF_len m.c
      have h2 := h.c
      simp only [itemsOf, List.length_map]
      omega
    · split <;> simp
theorem feed_told (m : MS) (x : Int) : (feedM m x).2.length ≤ 140 := feedK_told ((sane_iff _).1 (as_sane m)) x
theorem end_told (m : MS) : (endM m).2.length ≤ 33 ∧ saneM (endM m).1 = true ∧ (endM m).1.kind = (asM m).kind ∧ costM (endM m).1 = 0 := by
  have h := (sane_iff _).1 (as_sane m)
  refine ⟨?_, new_sane _, ?_, cost_new _⟩
  · show (endK (asM m)).length ≤ 33
    unfold endK
    split
    · unfold Dec.endLL; split <;> simp
    · split
      · unfold Nor.endI
        split
        · have h1 := Can.compose_le (asM m).n
          have h2 := Nor.kept_len (Nor.sane_kept h.n)
          omega
        · simp
      · split
        · unfold Sgm.endI
          rw [if_pos h.g]
          have h1 := cut_len (asM m).g
          have h3 : (asM m).g.length ≤ 32 := by
            have := h.g
            unfold Sgm.saneB at this
            simp only [Bool.and_eq_true, decide_eq_true_eq] at this
            exact this.1.1
          omega
        · simp
  · have hk := h.kind
    show (newM (asM m).kind).kind = (asM m).kind
    unfold newM
    rw [if_pos hk]
    rfl
theorem byte_item (c : UInt8) : byteOf (c.toNat : Int) = c := by
  have h := c.toNat_lt
  unfold byteOf
  have e : ((c.toNat : Int) % 256).toNat = c.toNat := by omega
  rw [e]
  simp
theorem dec_feeds (s : List UInt8) (hs : Dec.saneL s = true) (l : List Int) : feedsM { bare 0 with d := s } l = ({ bare 0 with d := (Dec.runL s (l.map byteOf)).1 }, (Dec.runL s (l.map byteOf)).2) := by
  induction l generalizing s with
  | nil => rfl
  | cons x t ih =>
    have hm : saneM { bare 0 with d := s } = true := (sane_iff _).2 ⟨by simp [bare], hs, nor0, seg0, by simp [bare], (by intro y hy; cases hy), .inl rfl, .inr (.inr rfl), .inr ⟨rfl, rfl⟩, .inr rfl⟩
    have hf : feedM { bare 0 with d := s } x = ({ bare 0 with d := (Dec.feedL s (byteOf x)).1 }, (Dec.feedL s (byteOf x)).2) := by
      unfold feedM
      rw [as_same hm]
      rfl
    simp only [feedsM, hf]
    rw [ih _ (Dec.feedL_sane s (byteOf x))]
    rfl
theorem all_dec (l : List Int) : allM 0 l = Dec.allL (l.map byteOf) := by
  have h := dec_feeds [] rfl l
  have e0 : newM 0 = { bare 0 with d := [] } := rfl
  unfold allM
  rw [e0, h, Dec.allL_eq]
  unfold Dec.allLL
  congr 1
  have hs := Dec.runL_sane [] rfl (l.map byteOf)
  have hm : saneM { bare 0 with d := (Dec.runL [] (l.map byteOf)).1 } = true := (sane_iff _).2 ⟨by simp [bare], hs, nor0, seg0, by simp [bare], (by intro y hy; cases hy), .inl rfl, .inr (.inr rfl), .inr ⟨rfl, rfl⟩, .inr rfl⟩
  show endK (asM _) = _
  rw [as_same hm]
  rfl
theorem norm_feeds {n : List Int} (h : Nor.Kept n) (l : List Int) : feedsM { bare 1 with n := n } l = ({ bare 1 with n := (Nor.feedsI n l).1 }, (Nor.feedsI n l).2) := by
  induction l generalizing n with
  | nil => rfl
  | cons x t ih =>
    have hm : saneM { bare 1 with n := n } = true := (sane_iff _).2 ⟨by simp [bare], rfl, Nor.kept_sane h, seg0, by simp [bare], (by intro y hy; cases hy), .inr rfl, .inl rfl, .inr ⟨rfl, rfl⟩, .inr rfl⟩
    have hf : feedM { bare 1 with n := n } x = ({ bare 1 with n := (Nor.feedI n x).1 }, (Nor.feedI n x).2) := by
      unfold feedM
      rw [as_same hm]
      rfl
    simp only [feedsM, hf]
    rw [ih (Nor.kept_feed n x)]
    rfl
theorem all_norm (l : List Int) : allM 1 l = nfkcI l := by
  rw [← Nor.all_form]
  have e0 : newM 1 = { bare 1 with n := [] } := rfl
  unfold allM Nor.allI
  rw [e0, norm_feeds Nor.kept_nil]
  congr 1
  have hm : saneM { bare 1 with n := (Nor.feedsI [] l).1 } = true := (sane_iff _).2 ⟨by simp [bare], rfl, Nor.kept_sane (Nor.kept_feeds l), seg0, by simp [bare], (by intro y hy; cases hy), .inr rfl, .inl rfl, .inr ⟨rfl, rfl⟩, .inr rfl⟩
  show endK (asM _) = _
  rw [as_same hm]
  rfl
theorem fold_feeds {n : List Int} (h : Nor.Kept n) (l : List Int) : feedsM { bare 2 with n := n } l = ({ bare 2 with n := (Fol.fedsI n l).1 }, (Fol.fedsI n l).2) := by
  induction l generalizing n with
  | nil => rfl
  | cons x t ih =>
    have hm : saneM { bare 2 with n := n } = true := (sane_iff _).2 ⟨by simp [bare], rfl, Nor.kept_sane h, seg0, by simp [bare], (by intro y hy; cases hy), .inr rfl, .inr (.inl rfl), .inr ⟨rfl, rfl⟩, .inr rfl⟩
    have hf : feedM { bare 2 with n := n } x = ({ bare 2 with n := (Fol.feedI n x).1 }, (Fol.feedI n x).2) := by
      unfold feedM
      rw [as_same hm]
      rfl
    simp only [feedsM, hf]
    rw [ih (Fol.feed_kept n x)]
    rfl
theorem all_fold (l : List Int) : allM 2 l = nfkcI (leftI l) := by
  rw [← Fol.all_form]
  have e0 : newM 2 = { bare 2 with n := [] } := rfl
  have hk : Nor.Kept (Fol.fedsI [] l).1 := by rw [Fol.feds_left Nor.kept_nil]; exact Nor.kept_feeds _
  unfold allM Fol.allI
  rw [e0, fold_feeds Nor.kept_nil]
  congr 1
  have hm : saneM { bare 2 with n := (Fol.fedsI [] l).1 } = true := (sane_iff _).2 ⟨by simp [bare], rfl, Nor.kept_sane hk, seg0, by simp [bare], (by intro y hy; cases hy), .inr rfl, .inr (.inl rfl), .inr ⟨rfl, rfl⟩, .inr rfl⟩
  show endK (asM _) = _
  rw [as_same hm]
  rfl
/-- clusters as items -/
def cutsOf (cs : List (List Int)) : List Int := cs.flatMap fun c => c ++ [-1]
theorem seg_feeds {c : List Int} {s : CS} (h : Sgm.saneB c s = true) (l : List Int) : saneM (feedsM { bare 3 with g := c, s := s } l).1 = true ∧ (feedsM { bare 3 with g := c, s := s } l).1.kind = 3 ∧
    (feedsM { bare 3 with g := c, s := s } l).2 ++ cutOf (feedsM { bare 3 with g := c, s := s } l).1.g = cutsOf (Sgm.segs c s l) := by
  induction l generalizing c s with
  | nil =>
    refine ⟨(sane_iff _).2 ⟨by simp [bare, feedsM], rfl, nor0, h, by simp [bare, feedsM], (by intro y hy; cases hy), .inr rfl, .inr (.inr rfl), .inl rfl, .inr rfl⟩, rfl, ?_⟩
    simp only [feedsM, List.nil_append]
    unfold cutOf Sgm.segs
    split
    · rename_i h0; subst h0; rfl
    · simp [cutsOf]
  | cons x t ih =>
    have hm : saneM { bare 3 with g := c, s := s } = true := (sane_iff _).2 ⟨by simp [bare], rfl, nor0, h, by simp [bare], (by intro y hy; cases hy), .inr rfl, .inr (.inr rfl), .inl rfl, .inr rfl⟩
    have hf : feedM { bare 3 with g := c, s := s } x = ({ bare 3 with g := (Sgm.feedI c s x).1.1, s := (Sgm.feedI c s x).1.2 }, cutOf (Sgm.feedI c s x).2) := by
      unfold feedM
      rw [as_same hm]
      rfl
    obtain ⟨a, b, e⟩ := ih (Sgm.feed_sane c s x)
    simp only [feedsM, hf]
    refine ⟨a, b, ?_⟩
    rw [List.append_assoc, e, Sgm.segs_cons]
    have hst : Sgm.feedI c s x = Sgm.stepI c s x := by unfold Sgm.feedI; rw [if_pos h]
    rw [hst]
    unfold Sgm.stepI
    split
    · rename_i hc
      simp only [cutsOf, List.flatMap_cons]
      unfold cutOf
      rw [if_neg hc.1]
    · simp [cutOf]
theorem all_seg (l : List Int) : allM 3 l = cutsOf (Sgm.allI l) := by
  obtain ⟨a, b, e⟩ := seg_feeds seg0 l
  have e0 : newM 3 = { bare 3 with g := [], s := zero } := rfl
  unfold allM
  rw [e0]
  rw [show Sgm.allI l = Sgm.segs [] zero l from rfl, ← e]
  congr 1
  show endK (asM _) = _
  rw [as_same a]
  unfold endK
  rw [if_neg (by omega), if_neg (by omega), if_pos b]
  have hs := ((sane_iff _).1 a).g
  unfold Sgm.endI
  rw [if_pos hs]
theorem frame_feeds (c t : List Int) (hc : c.length + t.length ≤ 32) (h1 : ∀ x ∈ c, x ≠ -1) (h2 : ∀ x ∈ t, x ≠ -1) : feedsM { bare 4 with c := c } t = ({ bare 4 with c := c ++ t }, []) := by
  induction t generalizing c with
  | nil => simp [feedsM]
  | cons x t ih =>
    have hx := h2 x (List.mem_cons_self ..)
    have hm : saneM { bare 4 with c := c } = true := (sane_iff _).2 ⟨by simp [bare], rfl, nor0, seg0, by simp at hc ⊢; omega, h1, .inr rfl, .inr (.inr rfl), .inr ⟨rfl, rfl⟩, .inl rfl⟩
    have hf : feedM { bare 4 with c := c } x = ({ bare 4 with c := c ++ [x] }, []) := by
      unfold feedM
      rw [as_same hm]
      have hl : ¬ c.length = 32 := by simp at hc; omega
      simp [feedK, bare, hx, hl]
    simp only [feedsM, hf]
    rw [ih (c ++ [x]) (by simp at hc ⊢; omega) (by
      intro y hy
      rcases List.mem_append.1 hy with hy | hy
      · exact h1 y hy
      · obtain rfl : y = x := by simpa using hy
        exact hx) (fun y hy => h2 y (List.mem_cons_of_mem _ hy))]
    simp
theorem frames_feeds (cs : List (List Int)) (h : ∀ c ∈ cs, c.length ≤ 32 ∧ ∀ x ∈ c, x ≠ -1) : feedsM (bare 4) (cutsOf cs) = (bare 4, itemsOf (cs.flatMap Frm.putF)) := by
  induction cs with
  | nil => rfl
  | cons c t ih =>
    obtain ⟨hl, hx⟩ := h c (List.mem_cons_self ..)
    have e : cutsOf (c :: t) = c ++ (-1 :: cutsOf t) := by simp [cutsOf]
    have hm : saneM { bare 4 with c := c } = true := (sane_iff _).2 ⟨by simp [bare], rfl, nor0, seg0, hl, hx, .inr rfl, .inr (.inr rfl), .inr ⟨rfl, rfl⟩, .inl rfl⟩
    have hf : feedM { bare 4 with c := c } (-1) = (bare 4, itemsOf (Frm.putF c)) := by
      unfold feedM
      rw [as_same hm]
      rfl
    have h0 := frame_feeds [] c (by simpa using hl) (by intro y hy; cases hy) hx
    rw [List.nil_append] at h0
    have e4 : (bare 4 : MS) = { bare 4 with c := [] } := rfl
    rw [e, feeds_app, e4, h0]
    simp only [feedsM, hf, List.nil_append]
    rw [ih fun y hy => h y (List.mem_cons_of_mem _ hy)]
    simp [itemsOf, bare]
theorem all_frame (cs : List (List Int)) (h : ∀ c ∈ cs, c.length ≤ 32 ∧ ∀ x ∈ c, x ≠ -1) : allM 4 (cutsOf cs) = itemsOf (cs.flatMap Frm.putF) := by
  unfold allM
  have e0 : newM 4 = bare 4 := rfl
  rw [e0, frames_feeds cs h]
  have : (endM (bare 4)).2 = [] := by
    show endK (asM (bare 4)) = []
    rw [as_same (sane_bare (by omega))]
    rfl
  rw [this, List.append_nil]
/-- all five, one behind the other, are the whole -/
theorem all_five (b : List UInt8) : allM 4 (allM 3 (allM 2 (allM 1 (allM 0 (itemsOf b))))) = itemsOf (Flw.frameI b) := by
  have hb : (itemsOf b).map byteOf = b := by
    unfold itemsOf
    rw [List.map_map]
    have : ∀ l : List UInt8, l.map (byteOf ∘ fun c => (c.toNat : Int)) = l := by
      intro l
      induction l with
      | nil => rfl
      | cons c t ih => rw [List.map_cons, ih]; simp only [Function.comp, byte_item]
    exact this b
  rw [all_dec, hb, all_norm, all_fold, all_seg]
  show allM 4 (cutsOf (Flw.clustersI b)) = _
  refine all_frame _ fun c hc => ⟨(Flw.clusters_len b c hc).2, fun x hx e => ?_⟩
  have := Flw.clusters_good b c hc x hx
  rw [e] at this
  exact absurd this (by decide)
end Go.Proofs.YtiidjkhkcckmkaaGreatDoor.Mch
