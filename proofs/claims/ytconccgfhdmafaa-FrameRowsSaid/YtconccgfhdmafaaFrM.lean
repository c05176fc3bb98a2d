/- Layer 13, plain mathematics: clusters as framed texts. -/
import Derived.Test.YtconccgfhdmafaaV1
import Derived.Test.YtconccgfhdmafaaM6
namespace Go.Proofs.Ytconccgfhdmafaa.Frm
set_option linter.unusedSimpArgs false
set_option linter.unusedVariables false
open Var (putN takeL)

def big : Nat := 268435455
/-- the frame of a text -/
def frameOf (t : List UInt8) : List UInt8 := putN t.length ++ t

def putF (c : List Int) : List UInt8 := if c = [] ∨ big < (Dec.textL c).length then [] else frameOf (Dec.textL c)

def takeF (b : List UInt8) : List UInt8 × Int × Int :=
  if (takeL b).2.2 ≠ 0 then ([], 0, (takeL b).2.2)
  else if (b.length : Int) - (takeL b).2.1 < (takeL b).1 then ([], 0, 1)
  else ((b.drop (takeL b).2.1.toNat).take (takeL b).1.toNat, (takeL b).2.1 + (takeL b).1, 0)

/-- what varint takes -/
theorem takeL_cases (b : List UInt8) : (∃ c, takeL b = (0, 0, c) ∧ 1 ≤ c ∧ c ≤ 3) ∨ ∃ m r, b = putN m ++ r ∧ m ≤ big ∧ takeL b = ((m : Int), ((putN m).length : Int), 0) := by
  rcases Var.take_shape b with h | ⟨hs, e, r, rfl, hl, h1, h2, h3, h4⟩
  · exact .inl h
  · right
    have hp := Var.put_val hs e h1 h2 h3
    have hlt := Var.valL_lt (hs ++ [e])
    have hb : Var.valL (hs ++ [e]) ≤ big := by
      have : (128 : Nat) ^ (hs ++ [e]).length ≤ 128 ^ 4 := Nat.pow_le_pow_right (by decide) (by simp; omega)
      unfold big
      omega
    refine ⟨Var.valL (hs ++ [e]), r, by rw [hp]; simp, hb, ?_⟩
    rw [h4, hp]
    simp

theorem take_frame {t : List UInt8} (h : t.length ≤ big) (more : List UInt8) : takeF (frameOf t ++ more) = (t, ((frameOf t).length : Int), 0) := by
  have e : frameOf t ++ more = putN t.length ++ (t ++ more) := by unfold frameOf; rw [List.append_assoc]
  unfold takeF
  rw [e, Var.take_put _ h]
  simp only [ne_eq, not_true, if_false]
  rw [if_neg (by simp; omega)]
  have h1 : (((putN t.length).length : Int)).toNat = (putN t.length).length := by omega
  have h2 : ((t.length : Int)).toNat = t.length := by omega
  rw [h1, h2, List.drop_left, List.take_left]
  unfold frameOf
  simp

theorem take_ok {b : List UInt8} (h : (takeF b).2.2 = 0) : ∃ t r, b = frameOf t ++ r ∧ t.length ≤ big ∧ takeF b = (t, ((frameOf t).length : Int), 0) := by
  rcases takeL_cases b with ⟨c, hc, h1, h2⟩ | ⟨m, r, rfl, hm, ht⟩
  · unfold takeF at h
    rw [hc] at h
    simp only [ne_eq] at h
    rw [if_pos (by omega)] at h
    simp only at h
    omega
  · unfold takeF at h
    rw [ht] at h
    simp only [ne_eq, not_true, if_false] at h
    by_cases hlt : ((putN m ++ r).length : Int) - ((putN m).length : Int) < (m : Int)
    · rw [if_pos hlt] at h
      simp at h
    · have hmr : m ≤ r.length := by simp at hlt; omega
      have hlen : (r.take m).length = m := by rw [List.length_take]; omega
      refine ⟨r.take m, r.drop m, ?_, by omega, ?_⟩
      · unfold frameOf
        rw [hlen, List.append_assoc, List.take_append_drop]
      · have e : putN m ++ r = frameOf (r.take m) ++ r.drop m := by
          unfold frameOf
          rw [hlen, List.append_assoc, List.take_append_drop]
        rw [e]
        exact take_frame (by omega) _

theorem take_err {b : List UInt8} (h : (takeF b).2.2 ≠ 0) : takeF b = ([], 0, (takeF b).2.2) := by
  unfold takeF at h ⊢
  split
  · rfl
  · rename_i h1
    rw [if_neg h1] at h
    split
    · rfl
    · rename_i h2
      rw [if_neg h2] at h
      exact absurd rfl h

theorem frame_pos (t : List UInt8) : 1 ≤ (frameOf t).length := by
  have := Var.put_len_pos t.length
  unfold frameOf
  simp
  omega

/-- all frames with which some bytes begin: f: no fewer than the bytes -/
def allU : Nat → List UInt8 → List (List UInt8) × Int × Int
  | 0, _ => ([], 0, 0)
  | f + 1, b =>
    if b = [] then ([], 0, 0)
    else if (takeF b).2.2 ≠ 0 then ([], 0, (takeF b).2.2)
    else ((takeF b).1 :: (allU f (b.drop (takeF b).2.1.toNat)).1, (takeF b).2.1 + (allU f (b.drop (takeF b).2.1.toNat)).2.1, (allU f (b.drop (takeF b).2.1.toNat)).2.2)
def allF (b : List UInt8) : List (List UInt8) × Int × Int := allU b.length b

def framesOf (ts : List (List UInt8)) : List UInt8 := ts.flatMap frameOf

theorem allU_frame {f : Nat} {t r : List UInt8} (h : t.length ≤ big) : allU (f + 1) (frameOf t ++ r) = (t :: (allU f r).1, ((frameOf t).length : Int) + (allU f r).2.1, (allU f r).2.2) := by
  have hne : frameOf t ++ r ≠ [] := by
    intro e
    have := frame_pos t
    rw [(List.append_eq_nil_iff.1 e).1] at this
    simp at this
  rw [allU, if_neg hne, take_frame h]
  have e : (frameOf t ++ r).drop ((frameOf t).length : Int).toNat = r := by
    rw [show ((frameOf t).length : Int).toNat = (frameOf t).length by omega, List.drop_left]
  rw [e]
  simp

/-- as many frames as are whole, and what is behind them -/
theorem allU_spec (f : Nat) (b : List UInt8) (hf : b.length ≤ f) : ∃ ts r e, b = framesOf ts ++ r ∧ (∀ t ∈ ts, t.length ≤ big) ∧ allU f b = (ts, ((framesOf ts).length : Int), e) ∧ ((r = [] ∧ e = 0) ∨ (r ≠ [] ∧ (takeF r).2.2 = e ∧ e ≠ 0)) := by
  induction f generalizing b with
  | zero =>
    obtain rfl : b = [] := List.eq_nil_of_length_eq_zero (by omega)
    exact ⟨[], [], 0, rfl, (fun _ h => by cases h), rfl, .inl ⟨rfl, rfl⟩⟩
  | succ f ih =>
    by_cases h0 : b = []
    · subst h0
      exact ⟨[], [], 0, rfl, (fun _ h => by cases h), by rw [allU, if_pos rfl]; rfl, .inl ⟨rfl, rfl⟩⟩
    by_cases he : (takeF b).2.2 = 0
    · obtain ⟨t, r, rfl, ht, htk⟩ := take_ok he
      have hp := frame_pos t
      obtain ⟨ts, r', e, rfl, h1, h2, h3⟩ := ih r (by simp at hf; omega)
      refine ⟨t :: ts, r', e, ?_, ?_, ?_, h3⟩
      · simp [framesOf]
      · intro x hx
        rcases List.mem_cons.1 hx with rfl | hx
        · exact ht
        · exact h1 x hx
      · rw [allU_frame ht, h2]
        simp [framesOf]
    · refine ⟨[], b, (takeF b).2.2, rfl, (fun _ h => by cases h), ?_, .inr ⟨h0, rfl, he⟩⟩
      rw [allU, if_neg h0, if_pos he]
      rfl

theorem allU_frames (ts : List (List UInt8)) (h : ∀ t ∈ ts, t.length ≤ big) (f : Nat) (r : List UInt8) : allU (f + ts.length) (framesOf ts ++ r) = (ts ++ (allU f r).1, ((framesOf ts).length : Int) + (allU f r).2.1, (allU f r).2.2) := by
  induction ts with
  | nil => simp [framesOf]
  | cons t ts ih =>
    have e : framesOf (t :: ts) ++ r = frameOf t ++ (framesOf ts ++ r) := by simp [framesOf]
    rw [e, show f + (t :: ts).length = f + ts.length + 1 by simp; omega, allU_frame (h t (List.mem_cons_self ..)), ih fun x hx => h x (List.mem_cons_of_mem _ hx)]
    simp [framesOf]
    omega

/-- how many rounds does not matter, if there are enough -/
theorem allU_more {f g : Nat} {b : List UInt8} (hf : b.length ≤ f) (hg : b.length ≤ g) : allU f b = allU g b := by
  induction f generalizing b g with
  | zero =>
    obtain rfl : b = [] := List.eq_nil_of_length_eq_zero (by omega)
    cases g with
    | zero => rfl
    | succ g => rw [allU, allU, if_pos rfl]
  | succ f ih =>
    cases g with
    | zero =>
      obtain rfl : b = [] := List.eq_nil_of_length_eq_zero (by omega)
      rw [allU, allU, if_pos rfl]
    | succ g =>
      by_cases h0 : b = []
      · subst h0; rw [allU, if_pos rfl, allU, if_pos rfl]
      by_cases he : (takeF b).2.2 = 0
      · obtain ⟨t, r, rfl, ht, htk⟩ := take_ok he
        have hp := frame_pos t
        rw [allU_frame ht, allU_frame ht, ih (b := r) (g := g) (by simp at hf; omega) (by simp at hg; omega)]
      · rw [allU, if_neg h0, if_pos he, allU, if_neg h0, if_pos he]

theorem frames_len (ts : List (List UInt8)) : ts.length ≤ (framesOf ts).length := by
  induction ts with
  | nil => simp
  | cons t ts ih =>
    have := frame_pos t
    simp [framesOf] at ih ⊢
    omega

theorem all_spec (b : List UInt8) : ∃ ts r e, b = framesOf ts ++ r ∧ (∀ t ∈ ts, t.length ≤ big) ∧ allF b = (ts, ((framesOf ts).length : Int), e) ∧ ((r = [] ∧ e = 0) ∨ (r ≠ [] ∧ (takeF r).2.2 = e ∧ e ≠ 0)) := allU_spec _ b (Nat.le_refl _)

theorem all_frames (ts : List (List UInt8)) (h : ∀ t ∈ ts, t.length ≤ big) (r : List UInt8) : allF (framesOf ts ++ r) = (ts ++ (allF r).1, ((framesOf ts).length : Int) + (allF r).2.1, (allF r).2.2) := by
  unfold allF
  have h1 := frames_len ts
  rw [allU_more (g := r.length + ts.length + (framesOf ts).length) (Nat.le_refl _) (by simp; omega)]
  have h2 := allU_frames ts h (r.length + (framesOf ts).length) r
  rw [show r.length + (framesOf ts).length + ts.length = r.length + ts.length + (framesOf ts).length by omega] at h2
  rw [h2, allU_more (f := r.length + (framesOf ts).length) (g := r.length) (by omega) (Nat.le_refl _)]

theorem all_whole (ts : List (List UInt8)) (h : ∀ t ∈ ts, t.length ≤ big) : allF (framesOf ts) = (ts, ((framesOf ts).length : Int), 0) := by
  have := all_frames ts h []
  rw [List.append_nil] at this
  rw [this]
  simp [allF, allU]

/-- texts -/
theorem enc_pos (r : Int) : 1 ≤ (Lib.encodeRune (Dec.fix r)).length := by
  obtain ⟨n, hn⟩ : ∃ n : Nat, Dec.fix r = (n : Int) := ⟨(Dec.fix r).toNat, by have := (Dec.goodB_iff _).1 (Dec.good_fix r); omega⟩
  have hf := Dec.form_enc (Dec.fix r) (Dec.good_fix r)
  cases e : Lib.encodeRune (Dec.fix r) with
  | nil =>
    rw [e] at hf
    have := Dec.run_form (by rw [hn]; omega) hf
    simp [Dec.runL] at this
  | cons a t => simp

theorem text_pos {c : List Int} (h : c ≠ []) : 1 ≤ (Dec.textL c).length := by
  cases c with
  | nil => exact absurd rfl h
  | cons r t =>
    have := enc_pos r
    have e : Dec.textL (r :: t) = Lib.encodeRune (Dec.fix r) ++ Dec.textL t := by simp [Dec.textL]
    rw [e, List.length_append]
    omega

theorem text_app (a b : List Int) : Dec.textL (a ++ b) = Dec.textL a ++ Dec.textL b := by simp [Dec.textL]
theorem text_flat (cs : List (List Int)) : Dec.textL cs.flatten = (cs.map Dec.textL).flatten := by
  induction cs with
  | nil => rfl
  | cons c t ih => rw [List.flatten_cons, text_app, ih]; simp

theorem putF_some {c : List Int} (h : c ≠ []) (hl : c.length ≤ 1000000) : putF c = frameOf (Dec.textL c) ∧ (Dec.textL c).length ≤ big := by
  have := Dec.textL_len c
  have hb : (Dec.textL c).length ≤ big := by unfold big; omega
  exact ⟨by unfold putF; rw [if_neg]; rintro (h1 | h1); exact h h1; omega, hb⟩

/-- what is put is taken -/
theorem take_put {c : List Int} (h : c ≠ []) (hl : c.length ≤ 1000000) (more : List UInt8) : takeF (putF c ++ more) = (Dec.textL c, ((putF c).length : Int), 0) := by
  obtain ⟨h1, h2⟩ := putF_some h hl
  rw [h1]
  exact take_frame h2 more

/-- with its last byte gone it is too short -/
theorem take_cut {c : List Int} (h : c ≠ []) (hl : c.length ≤ 1000000) : (takeF ((putF c).take ((putF c).length - 1))).2.2 = 1 := by
  obtain ⟨h1, h2⟩ := putF_some h hl
  have hp := text_pos h
  rw [h1]
  generalize Dec.textL c = t at h2 hp
  have e : (frameOf t).take ((frameOf t).length - 1) = putN t.length ++ t.take (t.length - 1) := by
    unfold frameOf
    rw [List.take_append, List.length_append, List.take_of_length_le (by omega)]
    congr 2
    omega
  unfold takeF
  rw [e, Var.take_put _ h2]
  simp only [ne_eq, not_true, if_false]
  rw [if_pos (by simp; omega)]

/-- frames are taken one behind the other -/
theorem all_put {cs : List (List Int)} (h : ∀ c ∈ cs, c ≠ [] ∧ c.length ≤ 1000000) : allF (cs.flatMap putF) = (cs.map Dec.textL, ((cs.flatMap putF).length : Int), 0) := by
  have e : cs.flatMap putF = framesOf (cs.map Dec.textL) := by
    unfold framesOf
    rw [List.flatMap_map]
    induction cs with
    | nil => rfl
    | cons c t ih =>
      rw [List.flatMap_cons, List.flatMap_cons, ih fun x hx => h x (List.mem_cons_of_mem _ hx), (putF_some (h c (List.mem_cons_self ..)).1 (h c (List.mem_cons_self ..)).2).1]
  rw [e]
  refine all_whole _ fun t ht => ?_
  obtain ⟨c, hc, rfl⟩ := List.mem_map.1 ht
  exact (putF_some (h c hc).1 (h c hc).2).2

end Go.Proofs.Ytconccgfhdmafaa.Frm
