/- Layer 9, plain mathematics: that form, value by value. -/
import Derived.Test.YtconccgfhdmafaaNfM
namespace Go.Proofs.Ytconccgfhdmafaa.Nor
set_option linter.unusedSimpArgs false
set_option linter.unusedVariables false
open Prp (mrkB cccI)
open Dcp (fullI)
open Par (joinI)
open Can Nfk

def cntI (l : List Int) : Nat := (l.filter mrkB).length

/-- what is kept, and what is told, where a value that is no mark is put -/
def headI (l : List Int) (d : Int) : List Int × List Int :=
  match composeI l with
  | [x] => if mrkB x = false then (match joinI x d with | some v => ([v], []) | none => ([d], [x])) else ([d], [x])
  | c => ([d], c)

def insI (l : List Int) (d : Int) : List Int := (insR d l.reverse).reverse

def putI (l : List Int) (d : Int) : List Int × List Int :=
  if mrkB d = true then (if cntI l = 30 then (insI (headI l 847).1 d, (headI l 847).2) else (insI l d, [])) else headI l d

/-- some values put, one behind the other: what is kept, what is told -/
def runI : List Int → List Int → List Int × List Int
  | l, [] => (l, [])
  | l, d :: t => ((runI (putI l d).1 t).1, (putI l d).2 ++ (runI (putI l d).1 t).2)

def saneB (l : List Int) : Bool := l.tail.all mrkB && decide (cntI l ≤ 30) && sortedB l

def feedI (l : List Int) (r : Int) : List Int × List Int := runI (if saneB l = true then l else []) (fullI r)
def endI (l : List Int) : List Int := if saneB l = true then composeI l else []

/-- values fed, one behind the other -/
def feedsI : List Int → List Int → List Int × List Int
  | l, [] => (l, [])
  | l, r :: t => ((feedsI (feedI l r).1 t).1, (feedI l r).2 ++ (feedsI (feedI l r).1 t).2)
def allI (l : List Int) : List Int := (feedsI [] l).2 ++ endI (feedsI [] l).1

theorem run_app (l a b : List Int) : runI l (a ++ b) = ((runI (runI l a).1 b).1, (runI l a).2 ++ (runI (runI l a).1 b).2) := by
  induction a generalizing l with
  | nil => simp [runI]
  | cons d t ih => simp only [List.cons_append, runI]; rw [ih]; simp

/-- what may be kept -/
structure Kept (l : List Int) : Prop where
  form : ∃ H M, l = H ++ M ∧ (∀ m ∈ M, mrkB m = true) ∧ (H = [] ∨ ∃ h, H = [h] ∧ mrkB h = false)
  few : cntI l ≤ 30
  ord : sortedB l = true

theorem kept_sane {l : List Int} (h : Kept l) : saneB l = true := by
  obtain ⟨H, M, rfl, hM, hH⟩ := h.form
  unfold saneB
  rw [h.ord, decide_eq_true h.few]
  have : (H ++ M).tail.all mrkB = true := by
    rcases hH with rfl | ⟨x, rfl, _⟩
    · simp only [List.nil_append, List.all_eq_true]
      intro m hm
      exact hM m (List.mem_of_mem_tail hm)
    · simp only [List.singleton_append, List.tail_cons, List.all_eq_true]
      exact hM
  rw [this]
  rfl

theorem sane_kept {l : List Int} (h : saneB l = true) : Kept l := by
  unfold saneB at h
  simp only [Bool.and_eq_true, decide_eq_true_eq, List.all_eq_true] at h
  obtain ⟨⟨h1, h2⟩, h3⟩ := h
  refine ⟨?_, h2, h3⟩
  cases l with
  | nil => exact ⟨[], [], rfl, (fun _ h => by cases h), .inl rfl⟩
  | cons x t =>
    by_cases hx : mrkB x = true
    · refine ⟨[], x :: t, rfl, fun m hm => ?_, .inl rfl⟩
      rcases List.mem_cons.1 hm with rfl | hm
      · exact hx
      · exact h1 m hm
    · exact ⟨[x], t, rfl, h1, .inr ⟨x, rfl, by simpa using hx⟩⟩

theorem kept_nil : Kept [] := ⟨⟨[], [], rfl, (fun _ h => by cases h), .inl rfl⟩, by decide, rfl⟩

theorem kept_one {v : Int} (hv : mrkB v = false) : Kept [v] := ⟨⟨[v], [], rfl, (fun _ h => by cases h), .inr ⟨v, rfl, hv⟩⟩, by simp [cntI, hv], rfl⟩

theorem cnt_marks {M : List Int} (h : ∀ m ∈ M, mrkB m = true) : cntI M = M.length := by
  unfold cntI
  rw [List.filter_eq_self.2 h]

theorem cnt_head {H M : List Int} (hM : ∀ m ∈ M, mrkB m = true) (hH : H = [] ∨ ∃ h, H = [h] ∧ mrkB h = false) : cntI (H ++ M) = M.length := by
  rcases hH with rfl | ⟨x, rfl, hx⟩
  · exact cnt_marks hM
  · unfold cntI
    rw [List.singleton_append, List.filter_cons, hx]
    simp only [Bool.false_eq_true, if_false]
    rw [List.filter_eq_self.2 hM]

theorem kept_len {l : List Int} (h : Kept l) : l.length ≤ 31 := by
  obtain ⟨H, M, rfl, hM, hH⟩ := h.form
  have := h.few
  rw [cnt_head hM hH] at this
  rcases hH with rfl | ⟨x, rfl, _⟩ <;> simp <;> omega

theorem not847 (x : Int) : joinI x 847 = none := not_second mrk847 (by omega) x

theorem head847 (l : List Int) : headI l 847 = ([847], composeI l) := by
  unfold headI
  cases composeI l with
  | nil => rfl
  | cons x t =>
    cases t with
    | nil => simp only [not847]; split <;> rfl
    | cons y u => rfl

theorem compR_marks {M : List Int} (h : ∀ m ∈ M, mrkB m = true) (R : List Int) (hR : ∀ m ∈ R, mrkB m = true) : compR M R = M.reverse ++ R := by
  induction M generalizing R with
  | nil => rfl
  | cons x t ih =>
    have e : cstep R x = x :: R := by
      unfold cstep
      split
      · rfl
      · rw [putR_marks hR]; rfl
    rw [compR_cons, e, ih (fun m hm => h m (List.mem_cons_of_mem _ hm)) (x :: R) (by
      intro m hm
      rcases List.mem_cons.1 hm with rfl | hm
      · exact h m (List.mem_cons_self ..)
      · exact hR m hm)]
    simp

/-- marks put together with one head: marks behind one head -/
theorem compR_one {M : List Int} (hM : ∀ m ∈ M, mrkB m = true) (N : List Int) (hN : ∀ m ∈ N, mrkB m = true) {h : Int} (hh : mrkB h = false) :
    ∃ N' h', compR M (N ++ [h]) = N' ++ [h'] ∧ (∀ m ∈ N', mrkB m = true) ∧ mrkB h' = false := by
  induction M generalizing N h with
  | nil => exact ⟨N, h, rfl, hN, hh⟩
  | cons x t ih =>
    have ht : ∀ m ∈ t, mrkB m = true := fun m hm => hM m (List.mem_cons_of_mem _ hm)
    have hx := hM x (List.mem_cons_self ..)
    have told : cstep (N ++ [h]) x = x :: (N ++ [h]) → ∃ N' h', compR (x :: t) (N ++ [h]) = N' ++ [h'] ∧ (∀ m ∈ N', mrkB m = true) ∧ mrkB h' = false := by
      intro e
      rw [compR_cons, e]
      refine ih ht (x :: N) (fun m hm => ?_) hh
      rcases List.mem_cons.1 hm with rfl | hm
      · exact hx
      · exact hN m hm
    by_cases hb : blockR x (N ++ [h]) = true
    · exact told (by unfold cstep; rw [if_pos hb])
    · cases e2 : joinI h x with
      | none =>
        refine told ?_
        unfold cstep
        rw [if_neg hb, putR_head hN hh, e2]
        rfl
      | some v =>
        have e : cstep (N ++ [h]) x = N ++ [v] := by
          unfold cstep
          rw [if_neg hb, putR_head hN hh, e2]
          rfl
        rw [compR_cons, e]
        exact ih ht N hN (join_facts e2).1

theorem compR_nil_head {h : Int} (M : List Int) : compR (h :: M) [] = compR M [h] := by
  rw [compR_cons]
  have : cstep [] h = [h] := by simp [cstep, blockR, putR]
  rw [this]

/-- what holds of what is kept (l) and told (out) behind the values put so far, which are s with what is put between -/
structure At (s l out : List Int) : Prop where
  at_ : ∃ W M, orderR s [] = M.reverse ++ W.reverse ∧ (∀ m ∈ M, mrkB m = true) ∧ M.length ≤ 30 ∧
    ((W = [] ∧ l = M ∧ out = []) ∨ ∃ h W' x, mrkB h = false ∧ l = h :: M ∧ compR W [] = h :: out.reverse ∧ W = W' ++ [x] ∧ mrkB x = false)

theorem at_nil : At [] [] [] := ⟨[], [], rfl, (fun _ h => by cases h), by simp, .inl ⟨rfl, rfl, rfl⟩⟩

/-- at the end -/
theorem at_end {s l out : List Int} (hA : At s l out) : composeI (orderI s) = out ++ composeI l := by
  obtain ⟨W, M, ho, hM, _, hor⟩ := hA.at_
  have e : orderI s = W ++ M := by unfold orderI; rw [ho]; simp
  rw [e]
  rcases hor with ⟨rfl, rfl, rfl⟩ | ⟨h, W', x, hh, rfl, hc, _, _⟩
  · rfl
  · unfold composeI
    rw [compR_app, hc, compR_nil_head]
    have := compR_head M hh [] out.reverse
    simp only [List.nil_append] at this
    rw [this]
    simp

theorem at_cnt {s l out : List Int} (hA : At s l out) : ∃ H M, l = H ++ M ∧ (∀ m ∈ M, mrkB m = true) ∧ (H = [] ∨ ∃ h, H = [h] ∧ mrkB h = false) ∧ cntI l = M.length := by
  obtain ⟨W, M, ho, hM, _, hor⟩ := hA.at_
  rcases hor with ⟨rfl, rfl, rfl⟩ | ⟨h, W', x, hh, rfl, hc, _, _⟩
  · exact ⟨[], l, rfl, hM, .inl rfl, cnt_marks hM⟩
  · exact ⟨[h], M, rfl, hM, .inr ⟨h, rfl, hh⟩, cnt_head (H := [h]) hM (.inr ⟨h, rfl, hh⟩)⟩

/-- a value that is no mark -/
theorem at_head {s l out : List Int} {d : Int} (hA : At s l out) (hd : mrkB d = false) : At (s ++ [d]) (headI l d).1 (out ++ (headI l d).2) := by
  obtain ⟨W, M, ho, hM, hlen, hor⟩ := hA.at_
  have hd0 := (mrk_no d).1 hd
  have ho2 : orderR (s ++ [d]) [] = [].reverse ++ (W ++ M ++ [d]).reverse := by
    rw [orderR_app, ho, orderR_one]
    unfold stepR
    rw [hd]
    simp
  have no : ∀ (m : Int), m ∈ ([] : List Int) → mrkB m = true := fun _ h => by cases h
  rcases hor with ⟨rfl, rfl, rfl⟩ | ⟨h, W', x, hh, rfl, hc, _, _⟩
  · -- only marks so far
    have hcl : compR l [] = l.reverse := by rw [compR_marks hM [] no, List.append_nil]
    have hcI : composeI l = l := by unfold composeI; rw [hcl, List.reverse_reverse]
    have hst : cstep l.reverse d = d :: l.reverse := by
      unfold cstep
      split
      · rfl
      · rw [putR_marks (fun m hm => hM m (List.mem_reverse.1 hm))]; rfl
    have hI : headI l d = ([d], l) := by
      unfold headI
      rw [hcI]
      cases l with
      | nil => rfl
      | cons y u =>
        cases u with
        | nil => simp only; rw [if_neg (by rw [hM y (List.mem_cons_self ..)]; decide)]
        | cons z w => rfl
    rw [hI]
    refine ⟨[] ++ l ++ [d], [], ho2, no, by simp, .inr ⟨d, [] ++ l, d, hd, rfl, ?_, rfl, hd⟩⟩
    rw [List.nil_append, compR_app, hcl, compR_cons, hst]
    simp [compR]
  · obtain ⟨N, h', hN, hNm, hh'⟩ := compR_one hM [] no hh
    simp only [List.nil_append] at hN
    have hcI : composeI (h :: M) = h' :: N.reverse := by unfold composeI; rw [compR_nil_head, hN]; simp
    have hall : compR (W ++ M) [] = N ++ h' :: out.reverse := by
      rw [compR_app, hc]
      have := compR_head M hh [] out.reverse
      simp only [List.nil_append] at this
      rw [this, hN]
      simp
    have hlast : ∀ l2 o2, headI (h :: M) d = (l2, o2) → (∃ v, mrkB v = false ∧ l2 = [v] ∧ cstep (N ++ h' :: out.reverse) d = v :: (out ++ o2).reverse) → At (s ++ [d]) l2 (out ++ o2) := by
      rintro l2 o2 _ ⟨v, hv, rfl, e⟩
      refine ⟨W ++ M ++ [d], [], ho2, no, by simp, .inr ⟨v, W ++ M, d, hv, rfl, ?_, rfl, hd⟩⟩
      rw [compR_app, hall]
      exact e
    cases N with
    | nil =>
      simp only [List.reverse_nil] at hcI
      cases e2 : joinI h' d with
      | none =>
        have hI : headI (h :: M) d = ([d], [h']) := by unfold headI; rw [hcI]; simp only [hh', e2, if_true]
        have := hlast [d] [h'] hI ⟨d, hd, rfl, by
          unfold cstep
          split
          · simp
          · rw [List.nil_append, show h' :: out.reverse = [] ++ h' :: out.reverse from rfl, putR_head no hh', e2]; simp⟩
        rw [hI]
        exact this
      | some v =>
        have hI : headI (h :: M) d = ([v], []) := by unfold headI; rw [hcI]; simp only [hh', e2, if_true]
        have hv := (join_facts e2).1
        have := hlast [v] [] hI ⟨v, hv, rfl, by
          unfold cstep
          rw [if_neg (by simp [blockR, hh'])]
          rw [List.nil_append, show h' :: out.reverse = [] ++ h' :: out.reverse from rfl, putR_head no hh', e2]
          simp⟩
        rw [hI]
        exact this
    | cons y u =>
      have hy := hNm y (List.mem_cons_self ..)
      have hI : headI (h :: M) d = ([d], h' :: (y :: u).reverse) := by
        unfold headI
        rw [hcI]
        have : ∃ z w, (y :: u).reverse = z :: w := by
          cases e : (y :: u).reverse with
          | nil => simp at e
          | cons z w => exact ⟨z, w, rfl⟩
        obtain ⟨z, w, e⟩ := this
        rw [e]
      have := hlast [d] (h' :: (y :: u).reverse) hI ⟨d, hd, rfl, by
        unfold cstep
        have hb : blockR d (y :: u ++ h' :: out.reverse) = true := by
          have := (mrk_iff y).1 hy
          simp only [List.cons_append, blockR, hy, Bool.true_and, decide_eq_true_eq]
          omega
        rw [if_pos hb]
        simp⟩
      rw [hI]
      exact this

theorem insR_marks {d : Int} {N : List Int} (hd : mrkB d = true) (h : ∀ m ∈ N, mrkB m = true) : ∀ m ∈ insR d N, mrkB m = true := by
  induction N with
  | nil => intro m hm; obtain rfl : m = d := by simpa [insR] using hm
           exact hd
  | cons x t ih =>
    intro m hm
    unfold insR at hm
    split at hm
    · rcases List.mem_cons.1 hm with rfl | hm
      · exact h m (List.mem_cons_self ..)
      · exact ih (fun y hy => h y (List.mem_cons_of_mem _ hy)) m hm
    · rcases List.mem_cons.1 hm with rfl | hm
      · exact hd
      · exact h m hm

/-- a mark, where there is room -/
theorem at_mark {s l out : List Int} {d : Int} (hA : At s l out) (hd : mrkB d = true) (hr : cntI l < 30) : At (s ++ [d]) (insI l d) out := by
  obtain ⟨W, M, ho, hM, hlen, hor⟩ := hA.at_
  have hMr : ∀ m ∈ M.reverse, mrkB m = true := fun m hm => hM m (List.mem_reverse.1 hm)
  have hMn : ∀ m ∈ (insR d M.reverse).reverse, mrkB m = true := fun m hm => insR_marks hd hMr m (List.mem_reverse.1 hm)
  have hln : ((insR d M.reverse).reverse).length = M.length + 1 := by rw [List.length_reverse, insR_len, List.length_reverse]
  rcases hor with ⟨rfl, rfl, rfl⟩ | ⟨h, W', x, hh, rfl, hc, rfl, hx⟩
  · rw [cnt_marks hM] at hr
    refine ⟨[], insI l d, ?_, hMn, by unfold insI; omega, .inl ⟨rfl, rfl, rfl⟩⟩
    rw [orderR_app, ho, orderR_one]
    unfold stepR insI
    rw [if_pos hd]
    simp
  · rw [show h :: M = [h] ++ M from rfl, cnt_head hM (.inr ⟨h, rfl, hh⟩)] at hr
    refine ⟨W' ++ [x], (insR d M.reverse).reverse, ?_, hMn, by omega, .inr ⟨h, W', x, hh, ?_, hc, rfl, hx⟩⟩
    · rw [orderR_app, ho, orderR_one]
      unfold stepR
      rw [if_pos hd]
      simp only [List.reverse_append, List.reverse_cons, List.reverse_nil, List.nil_append, List.singleton_append, List.reverse_reverse]
      rw [insR_app hx]
      have : insR d (M.reverse ++ [x]) = insR d M.reverse ++ [x] := by
        have h2 : ∀ N : List Int, insR d (N ++ [x]) = insR d N ++ [x] := by
          intro N
          induction N with
          | nil => simp [insR, hx]
          | cons y t ih =>
            simp only [List.cons_append]
            unfold insR
            split
            · rw [ih]; rfl
            · rfl
        exact h2 _
      rw [this]
      simp
    · unfold insI
      rw [List.reverse_cons]
      have h2 : ∀ N : List Int, insR d (N ++ [h]) = insR d N ++ [h] := by
        intro N
        induction N with
        | nil => simp [insR, hh]
        | cons y t ih =>
          simp only [List.cons_append]
          unfold insR
          split
          · rw [ih]; rfl
          · rfl
      rw [h2]
      simp

theorem at_put {s l out : List Int} {d : Int} (hA : At s l out) : At (s ++ safeI [d] (cntI l)) (putI l d).1 (out ++ (putI l d).2) := by
  unfold putI
  by_cases hd : mrkB d = true
  · rw [if_pos hd]
    by_cases h30 : cntI l = 30
    · rw [if_pos h30]
      have e : safeI [d] (cntI l) = [847] ++ [d] := by simp [safeI, hd, h30]
      rw [e, ← List.append_assoc]
      have h1 := at_head hA mrk847
      rw [head847] at h1 ⊢
      have := at_mark h1 hd (by simp [cntI, mrk847])
      exact this
    · rw [if_neg h30]
      have e : safeI [d] (cntI l) = [d] := by simp [safeI, hd, h30]
      have hlt : cntI l < 30 := by
        obtain ⟨W, M, ho, hM, hlen, hor⟩ := hA.at_
        have : cntI l = M.length := by
          rcases hor with ⟨_, rfl, _⟩ | ⟨h, W', x, hh, rfl, _⟩
          · exact cnt_marks hM
          · exact cnt_head (H := [h]) hM (.inr ⟨h, rfl, hh⟩)
        omega
      rw [e]
      have := at_mark hA hd hlt
      simpa using this
  · have hd' : mrkB d = false := by simpa using hd
    rw [if_neg hd]
    have e : safeI [d] (cntI l) = [d] := by simp [safeI, hd']
    rw [e]
    exact at_head hA hd'

/-- how many marks are kept behind a value -/
theorem cnt_ins {l : List Int} {d : Int} (hd : mrkB d = true) : cntI (insI l d) = cntI l + 1 := by
  unfold cntI insI
  rw [List.filter_reverse, List.length_reverse]
  have : ∀ N : List Int, ((insR d N).filter mrkB).length = (N.filter mrkB).length + 1 := by
    intro N
    induction N with
    | nil => simp [insR, hd]
    | cons x t ih =>
      unfold insR
      split
      · rename_i h
        rw [List.filter_cons, List.filter_cons, h.1]
        simp only [if_true, List.length_cons, ih]
      · rw [List.filter_cons, hd]
        simp
  rw [this, List.filter_reverse, List.length_reverse]

theorem head_cnt (l : List Int) {d : Int} (hd : mrkB d = false) : cntI (headI l d).1 = 0 := by
  unfold headI
  split
  · split
    · split
      · rename_i e; simp [cntI, (join_facts e).1]
      · simp [cntI, hd]
    · simp [cntI, hd]
  · simp [cntI, hd]

theorem put_cnt (l : List Int) (d : Int) : cntI (putI l d).1 = if mrkB d = true then (if cntI l = 30 then 1 else cntI l + 1) else 0 := by
  unfold putI
  by_cases hd : mrkB d = true
  · rw [if_pos hd, if_pos hd]
    split
    · rw [cnt_ins hd, head_cnt l mrk847]
    · rw [cnt_ins hd]
  · rw [if_neg hd, if_neg hd]
    exact head_cnt l (by simpa using hd)

theorem safe_step (d : Int) (t : List Int) (l : List Int) : safeI (d :: t) (cntI l) = safeI [d] (cntI l) ++ safeI t (cntI (putI l d).1) := by
  rw [put_cnt]
  by_cases hd : mrkB d = true
  · by_cases h30 : cntI l = 30
    · simp [safeI, hd, h30]
    · simp [safeI, hd, h30]
  · simp [safeI, hd]

theorem at_run {s l out : List Int} (h : At s l out) (D : List Int) : At (s ++ safeI D (cntI l)) (runI l D).1 (out ++ (runI l D).2) := by
  induction D generalizing s l out with
  | nil => simpa [safeI, runI] using h
  | cons d t ih =>
    rw [safe_step, ← List.append_assoc]
    have := ih (at_put (d := d) h)
    simp only [runI]
    rw [← List.append_assoc]
    exact this

/-- what may be kept stays so -/
theorem kept_ins {l : List Int} {d : Int} (h : Kept l) (hd : mrkB d = true) (hr : cntI l < 30) : Kept (insI l d) := by
  obtain ⟨H, M, rfl, hM, hH⟩ := h.form
  refine ⟨?_, by rw [cnt_ins hd]; omega, ?_⟩
  · have hMr : ∀ m ∈ M.reverse, mrkB m = true := fun m hm => hM m (List.mem_reverse.1 hm)
    refine ⟨H, (insR d M.reverse).reverse, ?_, fun m hm => insR_marks hd hMr m (List.mem_reverse.1 hm), hH⟩
    unfold insI
    rcases hH with rfl | ⟨x, rfl, hx⟩
    · rfl
    · rw [List.reverse_append]
      have h2 : ∀ N : List Int, insR d (N ++ [x]) = insR d N ++ [x] := by
        intro N
        induction N with
        | nil => simp [insR, hx]
        | cons y t ih =>
          simp only [List.cons_append]
          unfold insR
          split
          · rw [ih]; rfl
          · rfl
      simp only [List.reverse_cons, List.reverse_nil, List.nil_append]
      rw [h2]
      simp
  · have := h.ord
    unfold sortedB insI at *
    rw [List.reverse_reverse]
    exact insR_adj this

theorem kept_head (l : List Int) {d : Int} (hd : mrkB d = false) : Kept (headI l d).1 := by
  unfold headI
  split
  · split
    · split
      · rename_i e; exact kept_one (join_facts e).1
      · exact kept_one hd
    · exact kept_one hd
  · exact kept_one hd

theorem kept_put {l : List Int} (h : Kept l) (d : Int) : Kept (putI l d).1 := by
  unfold putI
  by_cases hd : mrkB d = true
  · rw [if_pos hd]
    by_cases h30 : cntI l = 30
    · rw [if_pos h30]
      exact kept_ins (kept_head l mrk847) hd (by rw [head_cnt l mrk847]; omega)
    · rw [if_neg h30]
      exact kept_ins h hd (by have := h.few; omega)
  · rw [if_neg hd]
    exact kept_head l (by simpa using hd)

theorem kept_run {l : List Int} (h : Kept l) (D : List Int) : Kept (runI l D).1 := by
  induction D generalizing l with
  | nil => exact h
  | cons d t ih => exact ih (kept_put h d)

theorem kept_feed (l : List Int) (r : Int) : Kept (feedI l r).1 := by
  unfold feedI
  refine kept_run ?_ _
  split
  · rename_i h; exact sane_kept h
  · exact kept_nil

theorem head_told (l : List Int) (d : Int) : (headI l d).2.length ≤ l.length := by
  have := compose_le l
  unfold headI
  split
  · rename_i e
    rw [e] at this
    split
    · split
      · simp
      · exact this
    · exact this
  · exact this

theorem put_told {l : List Int} (h : Kept l) (d : Int) : (putI l d).2.length ≤ 31 := by
  have hl := kept_len h
  unfold putI
  split
  · split
    · have := head_told l 847; show (headI l 847).2.length ≤ 31; omega
    · simp
  · have := head_told l d; omega

theorem run_told {l : List Int} (h : Kept l) (D : List Int) : (runI l D).2.length ≤ 31 * D.length := by
  induction D generalizing l with
  | nil => simp [runI]
  | cons d t ih =>
    simp only [runI, List.length_append, List.length_cons]
    have h1 := put_told h d
    have h2 := ih (kept_put h d)
    omega

theorem feed_told (l : List Int) (r : Int) : (feedI l r).2.length ≤ 130 := by
  unfold feedI
  have hk : Kept (if saneB l = true then l else []) := by
    split
    · rename_i h; exact sane_kept h
    · exact kept_nil
  have h1 := run_told hk (fullI r)
  have h2 := (Dcp.full_len r).2
  omega

/-- fed one by one it is put one by one -/
theorem feeds_run {l : List Int} (h : Kept l) (a : List Int) : feedsI l a = runI l (madeI a) := by
  induction a generalizing l with
  | nil => rfl
  | cons r t ih =>
    have e : madeI (r :: t) = fullI r ++ madeI t := rfl
    have ef : feedI l r = runI l (fullI r) := by unfold feedI; rw [if_pos (kept_sane h)]
    rw [e, run_app, ← ef]
    simp only [feedsI]
    rw [ih (kept_feed l r)]

theorem kept_feeds (a : List Int) : Kept (feedsI [] a).1 := by rw [feeds_run kept_nil]; exact kept_run kept_nil _

/-- value by value it is the same form -/
theorem all_form (l : List Int) : allI l = nfkcI l := by
  have h := at_end (at_run at_nil (madeI l))
  simp only [List.nil_append, show cntI [] = 0 from rfl] at h
  unfold allI endI
  rw [if_pos (kept_sane (kept_feeds l)), feeds_run kept_nil]
  exact h.symm

theorem feeds_app (l a b : List Int) : feedsI l (a ++ b) = ((feedsI (feedsI l a).1 b).1, (feedsI l a).2 ++ (feedsI (feedsI l a).1 b).2) := by
  induction a generalizing l with
  | nil => simp [feedsI]
  | cons r t ih => simp only [List.cons_append, feedsI]; rw [ih]; simp

/-- what was told is told -/
theorem told_begins (a b : List Int) : (feedsI [] a).2 <+: nfkcI (a ++ b) := by
  rw [← all_form]
  unfold allI
  rw [feeds_app]
  simp only [List.append_assoc]
  exact List.prefix_append _ _

/-- a letter tells all that was kept -/
theorem feed_letter {l : List Int} (h : Kept l) {x : Int} (h1 : 0 ≤ x) (h2 : x < 128) : feedI l x = ([x], composeI l) := by
  obtain ⟨hm, hn⟩ := ascii_alone (h := x) (by omega)
  have hf : fullI x = [x] := Dcp.full_ascii (by omega)
  unfold feedI
  rw [if_pos (kept_sane h), hf]
  have hp : putI l x = ([x], composeI l) := by
    unfold putI
    rw [if_neg (by rw [hm]; decide)]
    unfold headI
    split
    · rename_i e
      rw [hn]
      split <;> simp [e]
    · rfl
  simp only [runI, hp, List.append_nil]

/-- what is told and what is kept are no more than what was kept and what was put -/
theorem head_sum (l : List Int) (d : Int) : (headI l d).1.length + (headI l d).2.length ≤ l.length + 1 := by
  have := compose_le l
  unfold headI
  split
  · rename_i e
    rw [e] at this
    simp only [List.length_cons, List.length_nil] at this
    split
    · split <;> simp <;> omega
    · simp; omega
  · simp; omega

theorem put_sum (l : List Int) (d : Int) : (putI l d).1.length + (putI l d).2.length ≤ l.length + 2 := by
  unfold putI
  split
  · split
    · have := head_sum l 847
      simp only [insI, List.length_reverse, insR_len]
      omega
    · simp [insI, insR_len]
  · have := head_sum l d
    omega

theorem run_sum (l D : List Int) : (runI l D).1.length + (runI l D).2.length ≤ l.length + 2 * D.length := by
  induction D generalizing l with
  | nil => simp [runI]
  | cons d t ih =>
    simp only [runI, List.length_append, List.length_cons]
    have h1 := put_sum l d
    have h2 := ih (putI l d).1
    omega

theorem made_len (l : List Int) : (madeI l).length ≤ 4 * l.length := by
  induction l with
  | nil => simp [madeI]
  | cons x t ih =>
    have e : madeI (x :: t) = fullI x ++ madeI t := rfl
    have := (Dcp.full_len x).2
    rw [e, List.length_append, List.length_cons]
    omega

end Go.Proofs.Ytconccgfhdmafaa.Nor
