/- Layer 16: rows of slices that are the call's own; the document's Put. -/
import Derived.Test.YtcbfgcmdlfediaaChR3
import Derived.Test.YtcbfgcmdlfediaaBasP
namespace Go.Proofs.Ytcbfgcmdlfediaa
set_option linter.unusedSimpArgs false
set_option linter.unusedVariables false
open Go.RowKit Go.Lib
open Stg (Ch)
theorem info_r16 : (Try.prog.info? 25).map (fun i => (i.zero, i.size, i.bytes)) = some (some (.slice none 0 0), 1, 24) := by kernel_rfl
theorem src_one16 (w : World) (v : Value) (T : TypeId) : Src (w.alloc (.cells #[v] T)) (.slice (some ⟨w.heap.size, 0, none⟩) 1 1) [v] := by
  refine .inr ⟨_, 1, rfl, fun j u hu => ?_⟩
  cases j with
  | zero =>
    simp at hu
    subst hu
    exact blk_cell (blk_new w _ _) 0 _ rfl
  | succ j => simp at hu
theorem row_lit16 (B : Nat) (w : World) (T : TypeId) (us : List Value) (hB : B ≤ w.heap.size) (hm : us.length ≤ maxLen) : (w.alloc (.cells us.toArray T)).ownsRow B T 1 (.slice (some ⟨w.heap.size, 0, none⟩) us.length us.length) us.length us := by
  refine ⟨by simp, .inr ⟨w.heap.size, us.length, us.toArray, rfl, hB, heap_alloc_new w _, Nat.le_refl _, hm, by simp, ?_⟩⟩
  rw [Nat.mul_one]
  exact List.take_of_length_le (by simp)
theorem row_set16 {B : Nat} {v : Value} {n : Nat} {us : List Value} {T : TypeId} {w : World} (h : w.ownsRow B T 1 v n us) (a : Addr) (u : Value) (hne : a.block < B) : (w.setCell a u).ownsRow B T 1 v n us := by
  refine ⟨h.1, ?_⟩
  rcases h.2 with h2 | ⟨g, cap, cur, rfl, hg, hh, r⟩
  · exact .inl h2
  · refine .inr ⟨g, cap, cur, rfl, hg, ?_, r⟩
    rw [heap_setCell_other w a g u (by omega)]
    exact hh
theorem row_below16 {B : Nat} {v : Value} {n : Nat} {us : List Value} {T : TypeId} {w w1 : World} (h : w.ownsRow B T 1 v n us) (hb : Below w.heap.size w w1) : w1.ownsRow B T 1 v n us := by
  refine ⟨h.1, ?_⟩
  rcases h.2 with h2 | ⟨g, cap, cur, rfl, hg, hh, r⟩
  · exact .inl h2
  · refine .inr ⟨g, cap, cur, rfl, hg, ?_, r⟩
    rw [hb.block g (Array.getElem?_eq_some_iff.1 hh).1]
    exact hh
/-- the values of a row of slices -/
theorem rro_vals {J : Nat → Prop} {w : World} {p : Option Addr} {n cap : Nat} {ls : List (List Int)} (h : RRo J w (.slice p n cap) ls) : ∃ us : List Value, us.length = ls.length ∧ Src w (.slice p n cap) us ∧ (∀ u ∈ us, u.oneCell' = true) ∧ ∀ (i : Nat) (u : Value) (l : List Int), us[i]? = some u → ls[i]? = some l → RIo J w u l := by
  by_cases hl : 0 < ls.length
  · obtain ⟨b, off, rfl, hb, hJ, hc⟩ := rro_at h hl
    obtain ⟨hn, hcap, _⟩ := rro_cap h
    subst hn
    have hg : ∀ i, i < ls.length → ((List.range ls.length).map fun i => (w.cell? ⟨b, off + i, none⟩).getD undef)[i]? = w.cell? ⟨b, off + i, none⟩ := fun i hi => by
      obtain ⟨u, hu, _⟩ := hc i hi
      simp [hi, hu]
    refine ⟨(List.range ls.length).map fun i => (w.cell? ⟨b, off + i, none⟩).getD undef, by simp, .inr ⟨⟨b, off, none⟩, cap, by simp, fun j u hu => ?_⟩, fun u hu => ?_, fun i u l hu hl2 => ?_⟩
    · have hj : j < ls.length := by
        have := (List.getElem?_eq_some_iff.1 hu).1
        simpa using this
      rw [hg j hj] at hu
      have hadd : (⟨b, off, none⟩ : Addr).add j = ⟨b, off + j, none⟩ := by unfold Addr.add; split <;> simp_all
      rw [hadd]
      exact hu
    · obtain ⟨i, hi, rfl⟩ := List.mem_map.1 hu
      obtain ⟨u, hu2, hr⟩ := hc i (by simpa using hi)
      obtain ⟨p, c, rfl⟩ := ri_form hr.1
      simp [hu2]
      rfl
    · have hi : i < ls.length := (List.getElem?_eq_some_iff.1 hl2).1
      obtain ⟨u2, hu2, hr⟩ := hc i hi
      rw [hg i hi, hu2] at hu
      rw [List.getElem?_eq_getElem hi] at hl2
      cases hu
      cases hl2
      exact hr
  · obtain rfl : ls = [] := List.eq_nil_of_length_eq_zero (by omega)
    obtain ⟨hn, _, hp⟩ := rro_cap h
    subst hn
    cases p with
    | none => obtain rfl := hp rfl; exact ⟨[], rfl, .inl ⟨rfl, rfl⟩, fun u h => (by cases h), fun i u l h => (by simp at h)⟩
    | some a => exact ⟨[], rfl, .inr ⟨a, cap, rfl, fun j u h => (by simp at h)⟩, fun u h => (by cases h), fun i u l h => (by simp at h)⟩
theorem rro_row {J : Nat → Prop} {B : Nat} {w : World} {v : Value} {ls : List (List Int)} {us : List Value} (h : w.ownsRow B 25 1 v ls.length us) (hn : us.length = ls.length) (hJ : ∀ j, B ≤ j → ¬ J j)
    (hr : ∀ (i : Nat) (u : Value) (l : List Int), us[i]? = some u → ls[i]? = some l → RIo J w u l) : RRo J w v ls := by
  have hc := fun g hg => World.ownsRow.cells (g := g) h hg
  have hlt := World.ownsRow.lt h
  rcases h.2 with ⟨rfl, hl⟩ | ⟨g, cap, cur, rfl, hB, _, hncap, _⟩
  · exact .inl ⟨rfl, List.eq_nil_of_length_eq_zero hl⟩
  · refine .inr ⟨⟨g, 0, none⟩, cap, rfl, hncap, fun _ => ⟨g, 0, rfl, (hlt g rfl).2, hJ g hB, fun i hi => ?_⟩⟩
    have hu : us[i]? = some (us[i]'(by omega)) := List.getElem?_eq_getElem (by omega)
    refine ⟨us[i]'(by omega), ?_, hr i _ _ hu (List.getElem?_eq_getElem hi)⟩
    have h := hc g rfl i _ hu
    have hadd : (⟨g, 0, none⟩ : Addr).add i = ⟨g, i, none⟩ := by unfold Addr.add; split <;> simp_all
    rw [hadd] at h
    simpa using h
theorem blk_grown16 {w w1 : World} {k : Nat} {cs : Array Value} {T : TypeId} {row : Option Nat} (h : Blk w k cs T) (hg : w.grownBy w1 row) (hne : some k ≠ row) : Blk w1 k cs T := by
  unfold Blk at *
  rw [hg.block k (Array.getElem?_eq_some_iff.1 h).1 hne]
  exact h
theorem row_off16 {B n : Nat} {v : Value} {us : List Value} {T : TypeId} {w : World} (h : w.ownsRow B T 1 v n us) {k : Nat} (hk : k < B) : some k ≠ v.ownBlock := fun e => by
  have := (World.ownsRow.lt h k e.symm).1
  omega
theorem row_up16 {J : Nat → Prop} {B n : Nat} {v : Value} {us : List Value} {T : TypeId} {w w0 : World} (h : w.ownsRow B T 1 v n us) (hB : w0.heap.size ≤ B) : ∀ j, v.ownBlock = some j → Up J w0 j := fun j e => .inr (Nat.le_trans hB (World.ownsRow.lt h j e).1)
theorem snoc_vals {J : Nat → Prop} {w : World} {us : List Value} {ls : List (List Int)} {u : Value} {l : List Int} (hn : us.length = ls.length) (h : ∀ (i : Nat) (u : Value) (l : List Int), us[i]? = some u → ls[i]? = some l → RIo J w u l) (hu : RIo J w u l) :
    ∀ (i : Nat) (x : Value) (y : List Int), (us ++ [u])[i]? = some x → (ls ++ [l])[i]? = some y → RIo J w x y := by
  intro i x y hx hy
  by_cases hi : i < us.length
  · rw [List.getElem?_append_left hi] at hx
    rw [List.getElem?_append_left (by omega)] at hy
    exact h i x y hx hy
  · have hi2 : i = us.length := by
      have := (List.getElem?_eq_some_iff.1 hx).1
      simp at this
      omega
    subst hi2
    rw [List.getElem?_append_right (Nat.le_refl _), Nat.sub_self] at hx
    rw [List.getElem?_append_right (by omega), hn, Nat.sub_self] at hy
    simp at hx hy
    subst hx
    subst hy
    exact hu
set_option maxHeartbeats 3200000 in
set_option maxRecDepth 100000 in
theorem rput16 (J : Nat → Prop) (v : Value) (c : Ch) (vb : Value) (b : List Int) (w : World) (hold : Old J w) (hf : c.Few) (hbl : b.length ≤ 10000) (hv : RCh J w v c) (hvb : RIo J w vb b) : Calls Try.prog 13 #[v, vb] w (ToldCB J (Stg.putC c b) w) := by
  unfold Stg.putC
  obtain ⟨i0, hi, hz0, hz1, hz2⟩ := info_parts info_r16
  have hok := Stg.okB_iff b
  replace hvb := rio_up hvb
  obtain ⟨pb, cb, rfl⟩ := ri_form hvb.1
  
  have has := fun W (h : RCh (Up J w) W v c) => ras_box hf h
  replace hv := rch_up hv
  obtain ⟨p, cap, rfl, hr0⟩ := rch_form hv
  obtain ⟨d, hd⟩ : ∃ d, Stg.asC c = d := ⟨_, rfl⟩
  have hsn := Stg.asC_sane c
  rw [hd] at has hsn ⊢
  have hsn2 := (Stg.saneC_iff d).1 hsn
  
  have hbel0 : Below w.heap.size w ((w.alloc (.cells #[.slice p c.L.length cap, .bool c.closed] 24)).alloc (.cells #[.slice none 0 0, .bool false] 24)) := (below_new w _).alloc (by simp) _
  have hres := blk_new (w.alloc (.cells #[.slice p c.L.length cap, .bool c.closed] 24)) #[.slice none 0 0, .bool false] 24
  rw [show (w.alloc (.cells #[.slice p c.L.length cap, .bool c.closed] 24)).heap.size = w.heap.size + 1 by simp] at hres
  have hcall := Lib.hid (has _ (rch_below hv hbel0))
  replace hbel0 := Lib.hid hbel0
  replace hres := Lib.hid hres
  obtain ⟨cl, hcl⟩ : ∃ cl, c.closed = cl := ⟨_, rfl⟩
  obtain ⟨n, hn⟩ : ∃ n, c.L.length = n := ⟨_, rfl⟩
  rw [hcl, hn] at hbel0 hcall hres ⊢
  clear hcl hn hv has hr0 hd hsn
  obtain ⟨L, dc⟩ := d
  dsimp only at hcall hsn2 ⊢
  obtain ⟨hs1, hs2⟩ := hsn2
  replace hs2 := Lib.hid hs2
  have hvb1 := Lib.hid (fun W (h : OnlyIn (Up J w) w W) => rio_but hvb h)
  clear hvb
  obtain ⟨OK, hOK⟩ : ∃ OK, Stg.okB b = OK := ⟨_, rfl⟩
  rw [hOK] at hok ⊢
  obtain ⟨m, hm⟩ : ∃ m, b.length = m := ⟨_, rfl⟩
  rw [hm] at hok hbl hvb1 ⊢
  replace hold := Lib.hid hold
  clear hOK
  obtain ⟨Q, hQ⟩ : ∃ Q, (if OK = true ∧ dc = false ∧ L.length < 2 then ((⟨L ++ [b], false⟩ : Ch), true) else (⟨L, dc⟩, false)) = Q := ⟨_, rfl⟩
  rw [hQ]
  replace hQ := Lib.hid hQ
  replace hm := Lib.hid hm
  replace hok := Lib.hid hok
  go_enter Try.func13, Try.ntmps13
  go_wp2_with fail
  
  refine hcall.out.mono ?_
  rintro e w1 ⟨pd, cd, rfl, hr1, hb1⟩
  have hrs0 := blk_below hres.out hb1
  have hlt0 := blk_lt hrs0
  have hbx := blk_new w1 #[.slice pd L.length cd, .bool dc] 24
  have hrs1 := blk_alloc hrs0 (.cells #[.slice pd L.length cd, .bool dc] 24)
  have hr2 := Lib.hid (rro_but hr1 (only_below (below_new w1 (.cells #[.slice pd L.length cd, .bool dc] 24))))
  replace hb1 := Lib.hid (below_on hbel0.out hb1)
  have hbel := Lib.hid (hb1.out.alloc hb1.out.size (.cells #[.slice pd L.length cd, .bool dc] 24))
  have hw1s : w1.heap.size < (w1.alloc (.cells #[.slice pd L.length cd, .bool dc] 24)).heap.size := by simp
  obtain ⟨W, hW⟩ : ∃ W, w1.alloc (.cells #[.slice pd L.length cd, .bool dc] 24) = W := ⟨_, rfl⟩
  rw [hW] at hr2 hbx hrs1 hbel hw1s
  replace hW := Lib.hid hW
  clear hbel0 hcall hres hrs0 hr1
  have f0 := blk_thaw hrs1 0
  have f1 := blk_thaw hrs1 1
  have e0 := blk_cell hrs1 0 (.slice none 0 0) rfl
  have e1 := blk_cell hrs1 1 (.bool false) rfl
  have c0 := blk_cell hbx 0 (.slice pd L.length cd) rfl
  have c1 := blk_cell hbx 1 (.bool dc) rfl
  replace hrs1 := Lib.hid hrs1
  replace hbx := Lib.hid hbx
  go_upto_region 2 with (fail)
  rw [hW.out]
  have hB := Lib.hid (fun a c b z => (hbel.out.setCell (p := ⟨w.heap.size + 1, 0, none⟩) (Nat.le_succ _) (.slice a c b)).setCell (p := ⟨w.heap.size + 1, 1, none⟩) (Nat.le_succ _) (.bool z))
  have hq := Lib.hid (fun a c b z => blk_setAt16 (blk_setAt16 hrs1.out 0 (.slice a c b)) 1 (.bool z))
  by_cases h1 : m < 1
  · have n1 : (m : Int) < 1 := by omega
    have hno := Lib.hid (show ¬ (OK = true ∧ dc = false ∧ L.length < 2) from fun h => by have := hok.out.1 h.1; omega)
    
    go_wp2_with fail
    have q := hq.out pd L.length cd dc
    have q0 := blk_cell q 0 (.slice pd L.length cd) rfl
    have q1 := blk_cell q 1 (.bool dc) rfl
    have hO : OnlyIn (Up J w) W ((W.setCell ⟨w.heap.size + 1, 0, none⟩ (.slice pd L.length cd)).setCell ⟨w.heap.size + 1, 1, none⟩ (.bool dc)) := only_trans (only_set _ ⟨w.heap.size + 1, 0, none⟩ _ (.inr (Nat.le_succ _))) (only_set _ ⟨w.heap.size + 1, 1, none⟩ _ (.inr (Nat.le_succ _)))
    refine bodyPost_ret (v := .tuple #[.agg #[.slice pd L.length cd, .bool dc], .bool false]) ?_ rfl ⟨_, by rw [← hQ.out, if_neg hno.out], by rw [← hQ.out, if_neg hno.out]; exact ⟨_, rfl, rro_down (rro_but hr2.out hO)⟩, hB.out pd L.length cd dc⟩
    simp [results, Try.results13, go_sem, q0, q1]
  · have n1 : ¬ (m : Int) < 1 := by omega
    by_cases h2 : 8 < m
    · have n2 : (8 : Int) < (m : Int) := by omega
      have hno := Lib.hid (show ¬ (OK = true ∧ dc = false ∧ L.length < 2) from fun h => by have := hok.out.1 h.1; omega)
      
      go_wp2_with fail
      have q := hq.out pd L.length cd dc
      have q0 := blk_cell q 0 (.slice pd L.length cd) rfl
      have q1 := blk_cell q 1 (.bool dc) rfl
      have hO : OnlyIn (Up J w) W ((W.setCell ⟨w.heap.size + 1, 0, none⟩ (.slice pd L.length cd)).setCell ⟨w.heap.size + 1, 1, none⟩ (.bool dc)) := only_trans (only_set _ ⟨w.heap.size + 1, 0, none⟩ _ (.inr (Nat.le_succ _))) (only_set _ ⟨w.heap.size + 1, 1, none⟩ _ (.inr (Nat.le_succ _)))
      refine bodyPost_ret (v := .tuple #[.agg #[.slice pd L.length cd, .bool dc], .bool false]) ?_ rfl ⟨_, by rw [← hQ.out, if_neg hno.out], by rw [← hQ.out, if_neg hno.out]; exact ⟨_, rfl, rro_down (rro_but hr2.out hO)⟩, hB.out pd L.length cd dc⟩
      simp [results, Try.results13, go_sem, q0, q1]
    · have n2 : ¬ (8 : Int) < (m : Int) := by omega
      have hyes := Lib.hid (hok.out.2 ⟨by omega, by omega⟩)
      rcases dc with _ | _
      · by_cases h3 : 2 ≤ L.length
        · have n3 : (2 : Int) ≤ (L.length : Int) := by omega
          have hno := Lib.hid (show ¬ (OK = true ∧ false = false ∧ L.length < 2) from fun h => by omega)
          
          go_wp2_with fail
          have q := hq.out pd L.length cd false
          have q0 := blk_cell q 0 (.slice pd L.length cd) rfl
          have q1 := blk_cell q 1 (.bool false) rfl
          have hO : OnlyIn (Up J w) W ((W.setCell ⟨w.heap.size + 1, 0, none⟩ (.slice pd L.length cd)).setCell ⟨w.heap.size + 1, 1, none⟩ (.bool false)) := only_trans (only_set _ ⟨w.heap.size + 1, 0, none⟩ _ (.inr (Nat.le_succ _))) (only_set _ ⟨w.heap.size + 1, 1, none⟩ _ (.inr (Nat.le_succ _)))
          refine bodyPost_ret (v := .tuple #[.agg #[.slice pd L.length cd, .bool false], .bool false]) ?_ rfl ⟨_, by rw [← hQ.out, if_neg hno.out], by rw [← hQ.out, if_neg hno.out]; exact ⟨_, rfl, rro_down (rro_but hr2.out hO)⟩, hB.out pd L.length cd false⟩
          simp [results, Try.results13, go_sem, q0, q1]
        · have n3 : ¬ (2 : Int) ≤ (L.length : Int) := by omega
          have h4 : L.length < 2 := by omega
          have hb2 := below_new W (.cells ([] : List Value).toArray 25)
          obtain ⟨us, hun, hsrc, hone, hvals⟩ := rro_vals (rro_but hr2.out (only_below hb2))
          have hlit := Lib.hid (row_lit16 (w.heap.size + 2) W 25 [] (by omega) (Nat.zero_le _))
          have hb3 := Lib.hid (below_on hbel.out hb2)
          replace hsrc := Lib.hid hsrc
          replace hone := Lib.hid hone
          replace hvals := Lib.hid hvals
          have hun2 : us.length ≤ 1 := by omega
          have hz := hb3.out.size
          have hz2' : w.heap.size + 2 ≤ (W.alloc (.cells ([] : List Value).toArray 25)).heap.size := by simp; omega
          have hl1 : 0 + us.length ≤ maxLen := by unfold maxLen; omega
          have hl2 : (0 + us.length) * 24 ≤ 140737488355328 := by omega
          replace hz2' := Lib.hid hz2'
          replace hl1 := Lib.hid hl1
          replace hl2 := Lib.hid hl2
          replace hun2 := Lib.hid hun2
          replace hun := Lib.hid hun
          clear hz hb2
          go_upto_region 5 with (at_builtin; (refine wpList_append_src rfl _ _ 22 rfl (w.heap.size + 2) 25 i0 (.slice none 0 0) 24 Try.underlying22 hi hz0 hz1 hz2 rfl _ _ _ rfl hlit.out _ _ rfl hsrc.out hone.out hl1.out hl2.out hz2'.out ?_); intro v5 w5 hown5 hgrow5)
          have O5 := only_trans (only_below (J := Up J w) (below_new W (.cells ([] : List Value).toArray 25))) (only_grown hgrow5 (row_up16 hlit.out (by omega)))
          have V5 : ∀ (i : Nat) (u : Value) (l : List Int), us[i]? = some u → L[i]? = some l → RIo (Up J w) w5 u l := fun i u l h1 h2 => rio_but (hvals.out i u l h1 h2) (only_grown hgrow5 (row_up16 hlit.out (by omega)))
          have b5 := below_row hb3.out hgrow5 hb3.out.size hlit.out (by omega)
          have x5 := blk_grown16 (blk_alloc hrs1.out (.cells ([] : List Value).toArray 25)) hgrow5 (row_off16 hlit.out (by omega))
          have row5 := Lib.hid (row_below16 (by simpa using hown5) (below_new w5 (.cells #[.slice pb m cb] 25)) : (w5.alloc (.cells #[.slice pb m cb] 25)).ownsRow (w.heap.size + 2) 25 1 v5 us.length us)
          have src5 := Lib.hid (src_one16 w5 (.slice pb m cb) 25)
          have b6 := Lib.hid (b5.alloc b5.size (.cells #[.slice pb m cb] 25))
          have x6 := Lib.hid (blk_alloc x5 (.cells #[.slice pb m cb] 25))
          have O6 := Lib.hid (only_trans O5 (only_below (J := Up J w) (below_new w5 (.cells #[.slice pb m cb] 25))))
          have V6 := Lib.hid (fun i u l h1 h2 => rio_but (V5 i u l h1 h2) (only_below (J := Up J w) (below_new w5 (.cells #[.slice pb m cb] 25))))
          have hz6 : w.heap.size + 2 ≤ (w5.alloc (.cells #[.slice pb m cb] 25)).heap.size := by
            have h5 := hgrow5.size
            have := hz2'.out
            simp at h5 this ⊢
            omega
          have hm1 : us.length + 1 ≤ maxLen := by have := hun2.out; unfold maxLen; omega
          have hm2 : (us.length + 1) * 24 ≤ 140737488355328 := by have := hun2.out; omega
          replace hz6 := Lib.hid hz6
          replace hm1 := Lib.hid hm1
          replace hm2 := Lib.hid hm2
          have hone1 := Lib.hid (show ∀ u ∈ [Value.slice pb m cb], u.oneCell' = true from fun u hu => by rw [List.mem_singleton.1 hu]; rfl)
          clear hown5 hgrow5 O5 V5 b5 x5 e0 e1 c0 c1 f0 f1
          go_upto_region 6 with (at_builtin; (refine wpList_append_src rfl _ _ 22 rfl (w.heap.size + 2) 25 i0 (.slice none 0 0) 24 Try.underlying22 hi hz0 hz1 hz2 rfl _ _ _ rfl row5.out _ _ rfl src5.out hone1.out hm1.out hm2.out hz6.out ?_); intro v7 w7 hown7 hgrow7)
          have O7 := only_trans O6.out (only_grown hgrow7 (row_up16 row5.out (by omega)))
          have V7 : ∀ (i : Nat) (u : Value) (l : List Int), us[i]? = some u → L[i]? = some l → RIo (Up J w) w7 u l := fun i u l h1 h2 => rio_but (V6.out i u l h1 h2) (only_grown hgrow7 (row_up16 row5.out (by omega)))
          have b7 := below_row b6.out hgrow7 b6.out.size row5.out (by omega)
          have x7 := blk_grown16 x6.out hgrow7 (row_off16 row5.out (by omega))
          have vb7 := hvb1 w7 (only_trans (only_below hbel.out) O7)
          have all7 := snoc_vals hun.out V7 vb7
          have g0 := blk_thaw x7 0
          have g1 := blk_thaw x7 1
          have d0 := blk_cell x7 0 (.slice none 0 0) rfl
          have d1 := blk_cell x7 1 (.bool false) rfl
          obtain ⟨p7, n7, k7, rfl⟩ : ∃ p n k, v7 = .slice p n k := by
            rcases hown7.2 with ⟨rfl, _⟩ | ⟨g, cap, cur, rfl, _⟩ <;> exact ⟨_, _, _, rfl⟩
          have h7 := Lib.hid hown7
          have y7 := Lib.hid (blk_setAt16 (blk_setAt16 x7 0 (.slice p7 n7 k7)) 1 (.bool false))
          have B7 := Lib.hid ((b7.setCell (p := ⟨w.heap.size + 1, 0, none⟩) (Nat.le_succ _) (.slice p7 n7 k7)).setCell (p := ⟨w.heap.size + 1, 1, none⟩) (Nat.le_succ _) (.bool false))
          replace all7 := Lib.hid all7
          replace b7 := Lib.hid b7
          replace O7 := Lib.hid O7
          replace vb7 := Lib.hid vb7
          replace V7 := Lib.hid V7
          replace x7 := Lib.hid x7
          clear hown7 hgrow7
          go_wp2_with fail
          have q0 := blk_cell y7.out 0 (.slice p7 n7 k7) rfl
          have q1 := blk_cell y7.out 1 (.bool false) rfl
          have hO : OnlyIn (Up J w) w7 ((w7.setCell ⟨w.heap.size + 1, 0, none⟩ (.slice p7 n7 k7)).setCell ⟨w.heap.size + 1, 1, none⟩ (.bool false)) := only_trans (only_set _ ⟨w.heap.size + 1, 0, none⟩ _ (.inr (Nat.le_succ _))) (only_set _ ⟨w.heap.size + 1, 1, none⟩ _ (.inr (Nat.le_succ _)))
          have hrow := row_set16 (row_set16 h7.out ⟨w.heap.size + 1, 0, none⟩ (.slice p7 n7 k7) (Nat.lt_succ_self _)) ⟨w.heap.size + 1, 1, none⟩ (.bool false) (Nat.lt_succ_self _)
          have hQe := hQ.out
          rw [if_pos ⟨hyes.out, by trivial, h4⟩] at hQe
          refine bodyPost_ret (v := .tuple #[.agg #[.slice p7 n7 k7, .bool false], .bool true]) ?_ rfl ⟨_, by rw [← hQe], by rw [← hQe]; exact ⟨_, rfl, rro_row (us := us ++ [.slice pb m cb]) (by simpa [hun.out] using hrow) (by simp [hun.out]) (fun j hj hJ => by have := hold.out j hJ; omega) (fun i u l h1 h2 => rio_down (rio_but (all7.out i u l h1 h2) hO))⟩, B7.out⟩
          simp [results, Try.results13, go_sem, q0, q1]
      · have hno := Lib.hid (show ¬ (OK = true ∧ true = false ∧ L.length < 2) from fun h => by simp at h)
        
        go_wp2_with fail
        have q := hq.out pd L.length cd true
        have q0 := blk_cell q 0 (.slice pd L.length cd) rfl
        have q1 := blk_cell q 1 (.bool true) rfl
        have hO : OnlyIn (Up J w) W ((W.setCell ⟨w.heap.size + 1, 0, none⟩ (.slice pd L.length cd)).setCell ⟨w.heap.size + 1, 1, none⟩ (.bool true)) := only_trans (only_set _ ⟨w.heap.size + 1, 0, none⟩ _ (.inr (Nat.le_succ _))) (only_set _ ⟨w.heap.size + 1, 1, none⟩ _ (.inr (Nat.le_succ _)))
        refine bodyPost_ret (v := .tuple #[.agg #[.slice pd L.length cd, .bool true], .bool false]) ?_ rfl ⟨_, by rw [← hQ.out, if_neg hno.out], by rw [← hQ.out, if_neg hno.out]; exact ⟨_, rfl, rro_down (rro_but hr2.out hO)⟩, hB.out pd L.length cd true⟩
        simp [results, Try.results13, go_sem, q0, q1]
end Go.Proofs.Ytcbfgcmdlfediaa
