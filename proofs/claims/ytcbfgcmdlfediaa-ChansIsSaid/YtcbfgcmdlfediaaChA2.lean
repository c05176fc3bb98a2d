/- Layer 16: the code's Sane, known, apart. -/
import Derived.Test.YtcbfgcmdlfediaaChA1
namespace Go.Proofs.Ytcbfgcmdlfediaa
set_option linter.unusedSimpArgs false
set_option linter.unusedVariables false
open Go.RowKit Go.Lib
open Stg (Ch)
set_option maxHeartbeats 3200000 in
set_option maxRecDepth 100000 in
theorem sane16 (J : Nat → Prop) (v : Value) (c : Ch) (w : World) (hf : c.Few) (hv : RCh J w v c) : Calls Try.prog 18 #[v] w fun e w' => e = .returned (.bool (Stg.saneC c)) ∧ Below w.heap.size w w' := by
  obtain ⟨p, cap, rfl, hr⟩ := rch_form hv
  have hbad := @saneC_bad c
  have hgood := @saneC_good c
  obtain ⟨hn, hlen⟩ := hf
  obtain ⟨E, hE⟩ : ∃ E, Stg.saneC c = E := ⟨_, rfl⟩
  rw [hE] at hbad hgood ⊢
  obtain ⟨L, cl⟩ := c
  dsimp only at *
  have hr1 := rro_but hr (only_below (below_new w (.cells #[.slice p L.length cap, .bool cl] 28)))
  have hbx := blk_new w #[.slice p L.length cap, .bool cl] 28
  have hc0 := blk_cell hbx 0 _ rfl
  have hbel := Lib.hid (below_new w (.cells #[.slice p L.length cap, .bool cl] 28))
  obtain ⟨W, hW⟩ : ∃ W, w.alloc (.cells #[.slice p L.length cap, .bool cl] 28) = W := ⟨_, rfl⟩
  replace hr1 := Lib.hid hr1
  replace hbad := Lib.hid hbad
  replace hgood := Lib.hid hgood
  replace hlen := Lib.hid hlen
  clear hE hr hv hbx
  replace hc0 := Lib.hid hc0
  rw [hW] at hr1 hc0 hbel
  replace hW := Lib.hid hW
  go_enter Try.func18, Try.ntmps18
  go_wp2_with fail
  rw [hW.out]
  have hc1 := hc0.out
  go_loopg [4, 8] L.length (fun g vb vi wr => ∃ k : Nat, k ≤ L.length ∧ vi = .int .i64 k ∧ g = L.length - k ∧ wr = W ∧ ∀ j (h : j < L.length), j < k → Stg.okB L[j] = true)
  case atStart => exact ⟨0, Nat.zero_le _, rfl, rfl, rfl, fun j h hj => by omega⟩
  case round =>
    obtain ⟨k, hk, rfl, rfl, rfl, hok⟩ := hrel
    replace hc0 := hc0.out
    by_cases hlt : k < L.length
    · have hlt' : (k : Int) < (L.length : Int) := by omega
      obtain ⟨b, off, rfl, hb, hJ, hcell⟩ := rro_at hr1.out (by omega)
      obtain ⟨u, hu, hru⟩ := hcell k hlt
      obtain ⟨pk, ck, rfl⟩ := ri_form hru.1
      have hblk := Lib.hid (isBlock16 pk ck L[k] wr)
      have hbk := hbad.out k hlt
      have hnext : Stg.okB L[k] = true → ∀ j (h : j < L.length), j < k + 1 → Stg.okB L[j] = true := fun h0 j h hj => by
        by_cases e : j = k
        · subst e; exact h0
        · exact hok j h (by omega)
      obtain ⟨O, hO⟩ : ∃ O, Stg.okB L[k] = O := ⟨_, rfl⟩
      rw [hO] at hblk hbk hnext
      obtain ⟨m, hm⟩ : ∃ m, L[k].length = m := ⟨_, rfl⟩
      rw [hm] at hu hblk
      replace hnext := Lib.hid hnext
      replace hok := Lib.hid hok
      replace hbk := Lib.hid hbk
      clear hcell hru hm hO
      go_wp2_with fail
      refine hblk.out.mono ?_
      rintro e w1 ⟨rfl, rfl⟩
      clear hblk
      rcases O with _ | _
      · have hno := Lib.hid (hbk.out rfl)
        clear hbk
        go_wp2_with fail
        go_ret
        exact ⟨ret_bool hno.out.symm, hbel.out⟩
      · go_wp2_with fail
        go_roundg (L.length - (k + 1))
        case measure => omega
        case rel => exact ⟨k + 1, by omega, by go_num, rfl, rfl, hnext.out trivial⟩
    · obtain rfl : k = L.length := by omega
      have hlt' : decide ((L.length : Int) < (L.length : Int)) = false := by simp
      have hres := Lib.hid (hgood.out fun k h _ => hok k h h)
      replace hok := Lib.hid hok
      obtain ⟨D, hD⟩ : ∃ D, decide (L.length ≤ 2) = D := ⟨_, rfl⟩
      have hD2 : decide ((L.length : Int) ≤ 2) = D := by rw [← hD]; exact decide_eq_decide.2 (by omega)
      rw [hD] at hres
      go_wp2_with fail
      go_ret
      exact ⟨ret_bool hres.out.symm, hbel.out⟩
theorem known16 (J : Nat → Prop) (v : Value) (c : Ch) (w : World) (hf : c.Few) (hv : RCh J w v c) : Calls Try.prog 27 #[v] w (ToldC J (Stg.asC c) w) := by
  have hs := fun W (h : RCh J W v c) => sane16 J v c W hf h
  obtain ⟨p, cap, rfl, hr⟩ := rch_form hv
  obtain ⟨S, hS⟩ : ∃ S, Stg.saneC c = S := ⟨_, rfl⟩
  have hA : Stg.asC c = if S = true then c else ⟨[], false⟩ := by unfold Stg.asC; rw [hS]
  rw [hS] at hs
  have hb0 := blk_new w #[.slice p c.L.length cap, .bool c.closed] 28
  have hb := blk_alloc hb0 (.cells #[.slice none 0 0, .bool false] 28)
  have hres := blk_new (w.alloc (.cells #[.slice p c.L.length cap, .bool c.closed] 28)) #[.slice none 0 0, .bool false] 28
  rw [show (w.alloc (.cells #[.slice p c.L.length cap, .bool c.closed] 28)).heap.size = w.heap.size + 1 by simp] at hres
  have hbel : Below w.heap.size w ((w.alloc (.cells #[.slice p c.L.length cap, .bool c.closed] 28)).alloc (.cells #[.slice none 0 0, .bool false] 28)) := (below_new w _).alloc (by simp) _
  have hcall := Lib.hid (hs _ (rch_below hv hbel))
  have hv1 := Lib.hid (fun W h => rch_below (w1 := W) hv h)
  have c0 := blk_cell hb 0 (.slice p c.L.length cap) rfl
  have c1 := blk_cell hb 1 (.bool c.closed) rfl
  replace hbel := Lib.hid hbel
  replace hres := Lib.hid hres
  replace hb := Lib.hid hb
  replace hA := Lib.hid hA
  replace hv := Lib.hid hv
  clear hb0 hS hs hr
  obtain ⟨cl, hcl⟩ : ∃ cl, c.closed = cl := ⟨_, rfl⟩
  obtain ⟨n, hn⟩ : ∃ n, c.L.length = n := ⟨_, rfl⟩
  rw [hcl, hn] at hb hres hbel hcall hv1 c0 c1 ⊢
  clear hcl hn hv
  go_enter Try.func27, Try.ntmps27
  go_wp2_with fail
  refine hcall.out.mono ?_
  rintro e w1 ⟨rfl, hb1⟩
  have hbx1 := blk_below hb.out hb1
  have hrs1 := blk_below hres.out hb1
  clear c0 c1
  have c0 := blk_cell hbx1 0 (.slice p n cap) rfl
  have c1 := blk_cell hbx1 1 (.bool cl) rfl
  have f0 := blk_thaw hrs1 0
  have f1 := blk_thaw hrs1 1
  have d0 := blk_cell hrs1 0 (.slice none 0 0) rfl
  have d1 := blk_cell hrs1 1 (.bool false) rfl
  replace hb1 := Lib.hid (below_on hbel.out hb1)
  replace hrs1 := Lib.hid hrs1
  clear hb hbel hres hbx1 hcall
  rcases S with _ | _
  · go_wp2_with fail
    refine bodyPost_ret (v := .agg #[.slice none 0 0, .bool false]) ?_ rfl ?_
    · have q := blk_setAt16 (blk_setAt16 hrs1.out 0 (.slice none 0 0)) 1 (.bool false)
      have q0 := blk_cell q 0 (.slice none 0 0) rfl
      have q1 := blk_cell q 1 (.bool false) rfl
      simp [results, Try.results27, go_sem, q0, q1]
    · refine ⟨_, rfl, ?_, (hb1.out.setCell (p := ⟨_, 0, none⟩) (Nat.le_succ _) _).setCell (p := ⟨_, 1, none⟩) (Nat.le_succ _) _⟩
      rw [hA.out]
      exact rch_zero _ _
  · go_wp2_with fail
    refine bodyPost_ret (v := .agg #[.slice p n cap, .bool cl]) ?_ rfl ?_
    · have q := blk_setAt16 (blk_setAt16 hrs1.out 0 (.slice p n cap)) 1 (.bool cl)
      have q0 := blk_cell q 0 (.slice p n cap) rfl
      have q1 := blk_cell q 1 (.bool cl) rfl
      simp [results, Try.results27, go_sem, q0, q1]
    · have hB := (hb1.out.setCell (p := ⟨_, 0, none⟩) (Nat.le_succ _) (.slice p n cap)).setCell (p := ⟨_, 1, none⟩) (Nat.le_succ _) (.bool cl)
      refine ⟨_, rfl, ?_, hB⟩
      rw [hA.out]
      exact hv1.out _ hB
/-- an own row of numbers stands in no block of an own row of slices -/
theorem own_off16 {B B' n : Nat} {v vo : Value} {l : List Int} {us : List Value} {w : World} (h : OwnI B v l w) (ho : w.ownsRow B' 25 1 vo n us) : v.ownBlock = none ∨ v.ownBlock ≠ vo.ownBlock := by
  rcases h.2 with ⟨rfl, _⟩ | ⟨g, cap, cur, rfl, _, hg, _⟩
  · exact .inl rfl
  · refine .inr fun e => ?_
    rcases ho.2 with ⟨rfl, _⟩ | ⟨g', cap', cur', rfl, _, hg', _⟩
    · cases e
    · cases e
      rw [hg] at hg'
      injection hg' with hg'
      injection hg' with _ hg'
      exact absurd hg' (by decide)
theorem blk_other16 {w : World} {k : Nat} {cs : Array Value} {T : TypeId} (h : Blk w k cs T) (a : Addr) (u : Value) (hne : k ≠ a.block) : Blk (w.setCell a u) k cs T := by
  unfold Blk at *
  rw [heap_setCell_other _ _ _ _ hne]
  exact h
theorem row_form16 {B n : Nat} {v : Value} {us : List Value} {T : TypeId} {w : World} (h : w.ownsRow B T 1 v n us) : ∃ p cap, v = .slice p n cap := by
  rcases h.2 with ⟨rfl, rfl⟩ | ⟨g, cap, cur, rfl, _⟩
  · exact ⟨none, 0, rfl⟩
  · exact ⟨_, _, rfl⟩
theorem row_at16 {B n cap k : Nat} {p : Option Addr} {us : List Value} {T : TypeId} {w : World} (h : w.ownsRow B T 1 (.slice p n cap) n us) (hk : k < n) : ∃ g, p = some ⟨g, 0, none⟩ ∧ B ≤ g ∧ g < w.heap.size ∧ ∃ h : k < us.length, w.cell? ⟨g, k, none⟩ = some us[k] ∧ w.frozen? ⟨g, k, none⟩ = false := by
  have hc := fun g hg => World.ownsRow.cells (g := g) h hg
  have hlt := World.ownsRow.lt h
  have hn := h.1
  rcases h.2 with ⟨_, hl⟩ | ⟨g, cap', cur, e, hB, hg, hncap, _⟩
  · omega
  · cases e
    have hku : k < us.length := by omega
    have h3 := hc g rfl k _ (List.getElem?_eq_getElem hku)
    have hadd : (⟨g, 0, none⟩ : Addr).add k = ⟨g, k, none⟩ := by unfold Addr.add; split <;> simp_all
    rw [hadd] at h3
    exact ⟨g, rfl, hB, (hlt g rfl).2, hku, by simpa using h3, blk_thaw (show Blk w g cur T from hg) k⟩
theorem row_put16 {B n cap k g : Nat} {us : List Value} {T : TypeId} {w : World} (h : w.ownsRow B T 1 (.slice (some ⟨g, 0, none⟩) n cap) n us) (hk : k < n) (u : Value) : (w.setCell ⟨g, k, none⟩ u).ownsRow B T 1 (.slice (some ⟨g, 0, none⟩) n cap) n (us.set k u) := by
  refine ⟨by simpa using h.1, ?_⟩
  rcases h.2 with ⟨e, _⟩ | ⟨g', cap', cur, e, hB, hg, hncap, hcap, hsz, ht⟩
  · cases e
  · cases e
    refine .inr ⟨g, cap, cur.setIfInBounds k u, rfl, hB, blk_setAt16 (show Blk w g cur T from hg) k u, hncap, hcap, by simpa using hsz, ?_⟩
    rw [← ht, Array.toList_setIfInBounds, List.take_set]
/-- a row while its blocks are told anew -/
def Mid16a (B n : Nat) (ls : List (List Int)) (v : Value) (k : Nat) (w w1 : World) : Prop :=
  ∃ us : List Value, w1.ownsRow B 25 1 v n us ∧ (∀ (i : Nat) (u : Value) (l : List Int), us[i]? = some u → ls[i]? = some l → i < k → OwnI B u l w1) ∧ (∀ (i : Nat) (u : Value) (l : List Int), us[i]? = some u → ls[i]? = some l → k ≤ i → RIo (Up (fun _ => False) w) w1 u l) ∧ Below w.heap.size w w1
theorem mid16_at {B n k cap : Nat} {ls : List (List Int)} {p : Option Addr} {w w1 : World} (h : Mid16a B n ls (.slice p n cap) k w w1) (hn : n = ls.length) (hk : k < ls.length) :
    ∃ g pk ck, p = some ⟨g, 0, none⟩ ∧ B ≤ g ∧ w1.cell? ⟨g, k, none⟩ = some (.slice pk ls[k].length ck) ∧ RI w1 (.slice pk ls[k].length ck) ls[k] := by
  obtain ⟨us, h1, h2, h3, h4⟩ := h
  obtain ⟨g, rfl, hB, _, hku, hc, _⟩ := row_at16 h1 (by omega : k < n)
  have hr := (h3 k _ _ (List.getElem?_eq_getElem hku) (List.getElem?_eq_getElem hk) (Nat.le_refl _)).1
  obtain ⟨pk, ck, e⟩ := ri_form hr
  rw [e] at hc hr
  exact ⟨g, pk, ck, rfl, hB, hc, hr⟩
theorem mid16_more {B n k cap g : Nat} {ls : List (List Int)} {w w1 w2 : World} (hw : w.heap.size ≤ B) (h : Mid16a B n ls (.slice (some ⟨g, 0, none⟩) n cap) k w w1) (hn : n = ls.length) (hk : k < ls.length) (hb : Below w1.heap.size w1 w2) {u : Value} (hu : OwnI w1.heap.size u ls[k] w2) :
    (∃ u0, w2.cell? ⟨g, k, none⟩ = some u0) ∧ w2.frozen? ⟨g, k, none⟩ = false ∧ Mid16a B n ls (.slice (some ⟨g, 0, none⟩) n cap) (k + 1) w (w2.setCell ⟨g, k, none⟩ u) := by
  obtain ⟨us, h1, h2, h3, h4⟩ := h
  obtain ⟨g', e, hB, hglt, hku, _, _⟩ := row_at16 h1 (by omega : k < n)
  cases e
  have r2 := row_below16 h1 hb
  obtain ⟨_, e, _, _, _, hc, hz⟩ := row_at16 r2 (by omega : k < n)
  cases e
  have hB1 : B ≤ w1.heap.size := by omega
  refine ⟨⟨_, hc⟩, hz, us.set k u, row_put16 r2 (by omega) u, fun i x l hx hl hik => ?_, fun i x l hx hl hik => ?_, (h4.trans (hb.mono h4.size)).setCell (p := ⟨g, k, none⟩) (Nat.le_trans hw hB) u⟩
  · by_cases e : i = k
    · subst e
      rw [List.getElem?_set_self hku] at hx
      rw [List.getElem?_eq_getElem hk] at hl
      cases hx
      cases hl
      exact ownI_set (ownI_mono hu hB1) _ _ (own_off16 hu r2)
    · rw [List.getElem?_set_ne (Ne.symm e)] at hx
      have := ownI_below (h2 i x l hx hl (by omega)) hb
      exact ownI_set this _ _ (own_off16 this r2)
  · rw [List.getElem?_set_ne (by omega)] at hx
    exact rio_but (rio_but (h3 i x l hx hl (by omega)) (only_below hb)) (only_set _ _ _ (.inr (Nat.le_trans hw hB)))
theorem mid16_done {B n : Nat} {ls : List (List Int)} {v : Value} {w w1 : World} (h : Mid16a B n ls v n w w1) (hn : n = ls.length) (hw : w.heap.size ≤ B) : RRo (fun j => j < B) w1 v ls ∧ Below w.heap.size w w1 := by
  obtain ⟨us, h1, h2, h3, h4⟩ := h
  subst hn
  exact ⟨rro_row h1 (by simpa using h1.1) (fun j h => by omega) (fun i u l hu hl => rio_own (h2 i u l hu hl (List.getElem?_eq_some_iff.1 hl).1) (fun j h => by omega)), h4⟩
set_option maxHeartbeats 3200000 in
set_option maxRecDepth 100000 in
/-- a channel in memory of its own -/
theorem apart16 (v : Value) (c : Ch) (w : World) (hf : c.Few) (hv : RCh (fun _ => False) w v c) : Calls Try.prog 30 #[v] w (ToldC (fun j => j < w.heap.size) c w) := by
  obtain ⟨p, cap, rfl, hr⟩ := rch_form hv
  obtain ⟨hn, hlen⟩ := hf
  obtain ⟨L, cl⟩ := c
  dsimp only at *
  have hb0 := blk_new w #[.slice p L.length cap, .bool cl] 28
  have hb := blk_alloc hb0 (.cells #[.slice none 0 0, .bool false] 28)
  have hres := blk_new (w.alloc (.cells #[.slice p L.length cap, .bool cl] 28)) #[.slice none 0 0, .bool false] 28
  rw [show (w.alloc (.cells #[.slice p L.length cap, .bool cl] 28)).heap.size = w.heap.size + 1 by simp] at hres
  have hbel : Below w.heap.size w ((w.alloc (.cells #[.slice p L.length cap, .bool cl] 28)).alloc (.cells #[.slice none 0 0, .bool false] 28)) := (below_new w _).alloc (by simp) _
  have hrW := rro_but (rro_up hr) (only_below (J := Up (fun _ => False) w) hbel)
  have hsz : ((w.alloc (.cells #[.slice p L.length cap, .bool cl] 28)).alloc (.cells #[.slice none 0 0, .bool false] 28)).heap.size = w.heap.size + 2 := by simp
  obtain ⟨W, hW⟩ : ∃ W, (w.alloc (.cells #[.slice p L.length cap, .bool cl] 28)).alloc (.cells #[.slice none 0 0, .bool false] 28) = W := ⟨_, rfl⟩
  rw [hW] at hb hres hbel hrW hsz
  have hclone := Lib.hid (rclone16 (Up (fun _ => False) w) _ L W (by omega) hrW)
  have c0 := blk_cell hb 0 (.slice p L.length cap) rfl
  replace hlen := Lib.hid hlen
  replace hb := Lib.hid hb
  replace hres := Lib.hid hres
  replace hbel := Lib.hid hbel
  replace hW := Lib.hid hW
  replace hsz := Lib.hid hsz
  clear hb0 hv hr hrW
  obtain ⟨n, hnn⟩ : ∃ n, L.length = n := ⟨_, rfl⟩
  rw [hnn] at c0 hclone hb hn hW
  replace hnn := Lib.hid hnn
  go_enter Try.func30, Try.ntmps30
  go_upto_region 1 with (fail)
  rw [hnn.out, hW.out]
  go_wp2_with fail
  refine hclone.out.mono ?_
  rintro e w1 ⟨v1, us, rfl, ⟨h1, hun, hvals⟩, hb1⟩
  rw [hnn.out] at h1
  obtain ⟨p1, cap1, rfl⟩ := row_form16 h1
  have hx1 := blk_below hb.out hb1
  have hr1 := blk_below hres.out hb1
  have hbel1 := below_on hbel.out hb1
  have hmid : Mid16a (w.heap.size + 2) n L (.slice p1 n cap1) 0 w w1 := by
    refine ⟨us, row_mono16 h1 (Nat.le_of_eq hsz.out.symm), fun i u l _ _ h => by omega, fun i u l hu hl _ => rio_mono (hvals i u l hu hl) (fun j _ hj => .inl hj), hbel1⟩
  replace hx1 := Lib.hid hx1
  replace hr1 := Lib.hid hr1
  replace hmid := Lib.hid hmid
  have hx2 := hx1.out
  have hne : w.heap.size + 2 ≤ w1.heap.size := by have := hb1.size; rw [hsz.out] at this; exact this
  clear h1 hvals hb1 hclone hb hres hbel hun
  go_wp2_with fail
  go_loopg [4, 5, 11] n (fun g v4 v5 vi wr => ∃ k : Nat, k ≤ n ∧ vi = .int .i64 k ∧ g = n - k ∧ Mid16a (w.heap.size + 2) n L (.slice p1 n cap1) k w wr ∧ Blk wr w.heap.size #[.slice p n cap, .bool cl] 28 ∧ Blk wr (w.heap.size + 1) #[.slice none 0 0, .bool false] 28)
  case atStart => exact ⟨0, Nat.zero_le _, rfl, rfl, hmid.out, hx1.out, hr1.out⟩
  case round =>
    obtain ⟨k, hk, rfl, rfl, hm, hx, hr⟩ := hrel
    clear hx2 hmid hx1 hr1
    by_cases hlt : k < n
    · have hlt' : (k : Int) < (n : Int) := by omega
      have hltL : k < L.length := by rw [hnn.out]; exact hlt
      obtain ⟨g, pk, ck, rfl, hg, hc, hrk⟩ := mid16_at hm hnn.out.symm hltL
      have hlk := hlen.out L[k] (List.getElem_mem hltL)
      have hcall := Lib.hid (sclone_any _ _ wr (by omega) hrk)
      obtain ⟨l, hl⟩ : ∃ l, L[k] = l := ⟨_, rfl⟩
      rw [hl] at hc hcall
      replace hl := Lib.hid hl
      replace hm := Lib.hid hm
      replace hx := Lib.hid hx
      replace hr := Lib.hid hr
      clear hrk hlk
      go_wp2_with fail
      refine hcall.out.mono ?_
      rintro e w2 ⟨v2, rfl, ho2, hb2⟩
      obtain ⟨p2, c2, rfl⟩ := ri_form (ri_of_own ho2)
      obtain ⟨m2, hm2⟩ : ∃ m2, l.length = m2 := ⟨_, rfl⟩
      rw [hm2] at ho2 ⊢
      clear hm2
      rw [← hl.out] at ho2
      obtain ⟨⟨u0, hu0⟩, hz0, hm2⟩ := mid16_more (Nat.le_add_right _ 2) hm.out hnn.out.symm hltL hb2 ho2
      have hx2 := blk_below hx.out hb2
      have hr2 := blk_below hr.out hb2
      replace hm2 := Lib.hid hm2
      have hx3 := Lib.hid (show Blk (w2.setCell ⟨g, k, none⟩ (.slice p2 m2 c2)) w.heap.size _ _ from blk_other16 hx2 ⟨g, k, none⟩ (.slice p2 m2 c2) (by show w.heap.size ≠ g; omega))
      have hr3 := Lib.hid (show Blk (w2.setCell ⟨g, k, none⟩ (.slice p2 m2 c2)) (w.heap.size + 1) _ _ from blk_other16 hr2 ⟨g, k, none⟩ (.slice p2 m2 c2) (by show w.heap.size + 1 ≠ g; omega))
      clear hx2 hr2 hx hr hm hcall ho2 hb2 hc
      go_wp2_with fail
      go_roundg (n - (k + 1))
      case measure => omega
      case rel => exact ⟨k + 1, by omega, by go_num, rfl, hm2.out, hx3.out, hr3.out⟩
    · obtain rfl : k = n := by omega
      have hlt' : decide ((k : Int) < (k : Int)) = false := by simp
      obtain ⟨hdone, hbel3⟩ := mid16_done hm hnn.out.symm (Nat.le_add_right _ 2)
      have d1 := blk_cell hx 1 (.bool cl) rfl
      have e0 := blk_cell hr 0 (.slice none 0 0) rfl
      have e1 := blk_cell hr 1 (.bool false) rfl
      have f0 := blk_thaw hr 0
      have f1 := blk_thaw hr 1
      replace hdone := Lib.hid hdone
      replace hbel3 := Lib.hid hbel3
      replace hx := Lib.hid hx
      replace hr := Lib.hid hr
      clear hm
      go_wp2_with fail
      have hB := (hbel3.out.setCell (p := ⟨w.heap.size + 1, 0, none⟩) (Nat.le_succ _) (.slice p1 k cap1)).setCell (p := ⟨w.heap.size + 1, 1, none⟩) (Nat.le_succ _) (.bool cl)
      refine bodyPost_ret (v := .agg #[.slice p1 k cap1, .bool cl]) ?_ rfl ⟨_, rfl, ⟨_, rfl, ?_⟩, hB⟩
      · have q := blk_setAt16 (blk_setAt16 hr.out 0 (.slice p1 k cap1)) 1 (.bool cl)
        have q0 := blk_cell q 0 (.slice p1 k cap1) rfl
        have q1 := blk_cell q 1 (.bool cl) rfl
        simp [results, Try.results30, go_sem, q0, q1]
      · have hO : OnlyIn (fun j => j < w.heap.size + 2) wr ((wr.setCell ⟨w.heap.size + 1, 0, none⟩ (.slice p1 k cap1)).setCell ⟨w.heap.size + 1, 1, none⟩ (.bool cl)) := only_trans (only_set _ ⟨w.heap.size + 1, 0, none⟩ _ (Nat.lt_succ_self _)) (only_set _ ⟨w.heap.size + 1, 1, none⟩ _ (Nat.lt_succ_self _))
        exact rro_mono (rro_but hdone.out hO) (fun j _ hj => Nat.lt_of_lt_of_le hj (Nat.le_add_right _ 2))
end Go.Proofs.Ytcbfgcmdlfediaa
