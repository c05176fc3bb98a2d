/- Layer 15, plain mathematics: which items the machines tell (MachItems). -/
import Derived.Test.YtiidjkhkcckmkaaGreatDoorMaM
namespace Go.Proofs.YtiidjkhkcckmkaaGreatDoor.Mch
set_option linter.unusedSimpArgs false
set_option linter.unusedVariables false
open Clu (CS zero)
/-- where Segment's items are read: i items of s, k items of l, n of the cluster -/
def At (l s : List Int) (i k n : Nat) : Prop :=
  (i = s.length ∧ k = l.length ∧ n = 0) ∨ ∃ (A : List (List Int)) (x y : List Int) (B : List (List Int)), s = cutsOf A ++ (x ++ (y ++ [-1])) ++ cutsOf B ∧ l = A.flatten ++ (x ++ y) ++ B.flatten ∧ i = (cutsOf A).length + x.length ∧ k = A.flatten.length + x.length ∧ n = x.length
    ∧ 1 ≤ x.length + y.length ∧ x.length + y.length ≤ 32 ∧ ∀ c ∈ B, 1 ≤ c.length ∧ c.length ≤ 32
theorem cuts_cons (c : List Int) (B : List (List Int)) : cutsOf (c :: B) = (c ++ [-1]) ++ cutsOf B := rfl
theorem cuts_app (A B : List (List Int)) : cutsOf (A ++ B) = cutsOf A ++ cutsOf B := List.flatMap_append
theorem at_next (A B : List (List Int)) (h : ∀ c ∈ B, 1 ≤ c.length ∧ c.length ≤ 32) : At (A.flatten ++ B.flatten) (cutsOf A ++ cutsOf B) (cutsOf A).length A.flatten.length 0 := by
  cases B with
  | nil => exact .inl ⟨by simp [cutsOf], by simp, rfl⟩
  | cons c B =>
    have hc := h c (List.mem_cons_self ..)
    refine .inr ⟨A, [], c, B, ?_, ?_, by simp, by simp, rfl, by simpa using hc.1, by simpa using hc.2, fun d hd => h d (List.mem_cons_of_mem _ hd)⟩
    · rw [cuts_cons]; simp
    · simp
theorem at_start (l : List Int) : At l (allM 3 l) 0 0 0 := by
  obtain ⟨h1, h2⟩ := Sgm.all_join l
  have h := at_next [] (Sgm.allI l) h2
  rw [all_seg]
  simpa [cutsOf, h1] using h
theorem at_step {l s : List Int} {i k n : Nat} (h : At l s i k n) (hl : ∀ x ∈ l, x ≠ -1) (hi : i < s.length) :
    (s[i] = -1 ∧ 1 ≤ n ∧ n ≤ 32 ∧ At l s (i + 1) k 0) ∨ (s[i] ≠ -1 ∧ ∃ hk : k < l.length, s[i] = l[k] ∧ n < 32 ∧ At l s (i + 1) (k + 1) (n + 1)) := by
  rcases h with ⟨h1, _, _⟩ | ⟨A, x, y, B, hs, hll, hie, hke, hne, g1, g2, gB⟩
  · omega
  · cases y with
    | nil =>
      left
      have e : s[i]? = some (-1) := by
        rw [hs, hie]
        rw [List.append_assoc, List.getElem?_append_right (by omega)]
        simp
      have e2 : s[i] = -1 := by rw [List.getElem?_eq_getElem hi] at e; exact Option.some.inj e
      simp only [List.length_nil, Nat.add_zero] at g1 g2
      refine ⟨e2, by omega, by omega, ?_⟩
      have h := at_next (A ++ [x]) B gB
      have e3 : (A ++ [x]).flatten = A.flatten ++ x := by simp
      have e4 : cutsOf (A ++ [x]) = cutsOf A ++ (x ++ [-1]) := by rw [cuts_app]; simp [cutsOf]
      rw [e3, e4] at h
      have e5 : s = cutsOf A ++ (x ++ [-1]) ++ cutsOf B := by rw [hs]; simp
      have e6 : l = A.flatten ++ x ++ B.flatten := by rw [hll]; simp
      rw [e5, e6]
      have e7 : i + 1 = (cutsOf A ++ (x ++ [-1])).length := by rw [hie]; simp; omega
      have e8 : k = (A.flatten ++ x).length := by rw [hke]; simp
      rw [e7, e8]
      exact h
    | cons z y =>
      right
      have hkl : k < l.length := by rw [hll, hke]; simp
      have e1 : s[i]? = some z := by
        rw [hs, hie]
        rw [List.append_assoc, List.getElem?_append_right (by omega)]
        simp
      have e2 : l[k]? = some z := by
        rw [hll, hke]
        rw [List.append_assoc, List.getElem?_append_right (by omega)]
        simp
      have e3 : s[i] = z := by rw [List.getElem?_eq_getElem hi] at e1; exact Option.some.inj e1
      have e4 : l[k] = z := by rw [List.getElem?_eq_getElem hkl] at e2; exact Option.some.inj e2
      have hz : z ≠ -1 := by rw [← e4]; exact hl _ (List.getElem_mem hkl)
      simp only [List.length_cons] at g1 g2
      refine ⟨by rw [e3]; exact hz, hkl, by rw [e3, e4], by omega, .inr ⟨A, x ++ [z], y, B, by rw [hs]; simp, by rw [hll]; simp, by rw [hie]; simp; omega, by rw [hke]; simp; omega, by rw [hne]; simp, by simp; omega, by simp; omega, gB⟩⟩
theorem at_end {l s : List Int} {i k n : Nat} (h : At l s i k n) (hi : i = s.length) : k = l.length ∧ n = 0 := by
  rcases h with ⟨_, h1, h2⟩ | ⟨A, x, y, B, hs, hll, hie, _⟩
  · exact ⟨h1, h2⟩
  · rw [hs] at hi
    simp at hi
    omega
theorem at_le {l s : List Int} {i k n : Nat} (h : At l s i k n) : k ≤ l.length ∧ n ≤ 32 := by
  rcases h with ⟨_, h1, h2⟩ | ⟨A, x, y, B, hs, hll, hie, hke, hne, _, g2, _⟩
  · omega
  · have h3 := congrArg List.length hll
    simp only [List.length_append] at h3
    omega
theorem frames_none (l : List Int) (h : ∀ x ∈ l, x ≠ -1) (m : MS) (hm : Sane m) (hk : m.kind = 4) : (feedsM m l).2 = [] ∧ Sane (feedsM m l).1 ∧ (feedsM m l).1.kind = 4 := by
  induction l generalizing m with
  | nil => exact ⟨rfl, hm, hk⟩
  | cons x t ih =>
    have hx := h x (List.mem_cons_self ..)
    have h1 := feedK_sane hm x
    have hf : feedM m x = feedK m x := by unfold feedM; rw [as_same ((sane_iff _).2 hm)]
    have h2 : (feedK m x).2 = [] := by
      unfold feedK
      rw [if_neg (by omega), if_neg (by omega), if_neg (by omega), if_neg (by omega), if_neg hx]
      split <;> rfl
    obtain ⟨g1, g2, g3⟩ := ih (fun y hy => h y (List.mem_cons_of_mem _ hy)) (feedK m x).1 h1.1 (by rw [h1.2, hk])
    simp only [feedsM]
    rw [hf, h2, g1]
    exact ⟨rfl, g2, g3⟩
theorem all_none (l : List Int) (h : ∀ x ∈ l, x ≠ -1) : allM 4 l = [] := by
  have hn : Sane (newM 4) := (sane_iff _).1 (new_sane 4)
  obtain ⟨g1, g2, g3⟩ := frames_none l h (newM 4) hn rfl
  unfold allM
  rw [g1, List.nil_append]
  show endK (asM _) = []
  rw [as_same ((sane_iff _).2 g2)]
  unfold endK
  rw [if_neg (by omega), if_neg (by omega), if_neg (by omega)]
theorem encode_pos (r : Int) : 1 ≤ (Lib.encodeRune r).length := by
  unfold Lib.encodeRune Lib.encodeRuneZ
  repeat' split
  all_goals simp
theorem text_ge (c : List Int) : c.length ≤ (Dec.textL c).length := by
  induction c with
  | nil => simp
  | cons x t ih =>
    have h1 := encode_pos (Dec.fix x)
    have e : Dec.textL (x :: t) = Lib.encodeRune (Dec.fix x) ++ Dec.textL t := rfl
    rw [e, List.length_append, List.length_cons]
    omega
theorem frames_ge (C : List (List Int)) (h : ∀ c ∈ C, 1 ≤ c.length ∧ c.length ≤ 32) : (cutsOf C).length ≤ (C.flatMap Frm.putF).length := by
  induction C with
  | nil => simp [cutsOf]
  | cons c t ih =>
    have hc := h c (List.mem_cons_self ..)
    have h1 := ih fun d hd => h d (List.mem_cons_of_mem _ hd)
    obtain ⟨h2, _⟩ := Frm.putF_some (c := c) (fun e => by rw [e] at hc; simp at hc) (by omega)
    have h3 := text_ge c
    have h4 := Var.put_len_pos (Dec.textL c).length
    rw [cuts_cons, List.flatMap_cons, List.length_append, List.length_append, List.length_append, h2]
    unfold Frm.frameOf
    rw [List.length_append]
    simp only [List.length_cons, List.length_nil]
    omega
/-- all that MachItems asks of what Segment and Framer tell -/
theorem seg_items (l : List Int) (h : ∀ x ∈ l, x ≠ -1) : ∃ F : List UInt8, allM 4 (allM 3 l) = itemsOf F ∧ (allM 3 l).length ≤ F.length ∧ (allM 3 l).length ≤ 2 * l.length ∧ (∀ x ∈ allM 3 l, x ∈ l ∨ x = -1) ∧ F.length ≤ 8 * l.length := by
  obtain ⟨h1, h2⟩ := Sgm.all_join l
  have h3 : ∀ c ∈ Sgm.allI l, c.length ≤ 32 ∧ ∀ x ∈ c, x ≠ -1 := fun c hc => ⟨(h2 c hc).2, fun x hx => h x (by rw [← h1]; exact List.mem_flatten.2 ⟨c, hc, hx⟩)⟩
  rw [all_seg, all_frame _ h3]
  refine ⟨_, rfl, frames_ge _ h2, ?_, ?_, ?_⟩
  · have : ∀ L : List (List Int), (∀ c ∈ L, 1 ≤ c.length) → (cutsOf L).length ≤ 2 * L.flatten.length := by
      intro L hL
      induction L with
      | nil => simp [cutsOf]
      | cons c t ih =>
        have g1 := hL c (List.mem_cons_self ..)
        have g2 := ih fun d hd => hL d (List.mem_cons_of_mem _ hd)
        rw [cuts_cons, List.flatten_cons]
        simp only [List.length_append, List.length_cons, List.length_nil]
        omega
    have := this _ fun c hc => (h2 c hc).1
    rw [h1] at this
    exact this
  · intro x hx
    obtain ⟨c, hc, hx⟩ := List.mem_flatMap.1 (show x ∈ (Sgm.allI l).flatMap fun c => c ++ [-1] from hx)
    rcases List.mem_append.1 hx with g | g
    · exact .inl (by rw [← h1]; exact List.mem_flatten.2 ⟨c, hc, g⟩)
    · exact .inr (by simpa using g)
  · have : ∀ L : List (List Int), (∀ c ∈ L, 1 ≤ c.length) → (L.flatMap Frm.putF).length ≤ 8 * L.flatten.length := by
      intro L hL
      induction L with
      | nil => simp
      | cons c t ih =>
        have g1 := hL c (List.mem_cons_self ..)
        have g2 := ih fun d hd => hL d (List.mem_cons_of_mem _ hd)
        have g3 := putF_len c
        rw [List.flatMap_cons, List.flatten_cons, List.length_append, List.length_append]
        omega
    have := this _ fun c hc => (h2 c hc).1
    rw [h1] at this
    exact this
end Go.Proofs.YtiidjkhkcckmkaaGreatDoor.Mch
