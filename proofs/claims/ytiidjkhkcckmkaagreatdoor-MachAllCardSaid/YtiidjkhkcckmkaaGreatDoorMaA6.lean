/- Layer 15: the code's Feed, End, Cost. -/
import Derived.Test.YtiidjkhkcckmkaaGreatDoorMaA4
import Derived.Test.YtiidjkhkcckmkaaGreatDoorMaA5
import Derived.Test.YtiidjkhkcckmkaaGreatDoorMaL
namespace Go.Proofs.YtiidjkhkcckmkaaGreatDoor
set_option linter.unusedSimpArgs false
set_option linter.unusedVariables false
open Go.RowKit Go.Lib
open Mch (MS)
/-- the machine that may be, in the box of the one that came -/
def RB15 (w : World) (v : Value) (M : MS) (k : Nat) (wx : World) : Prop :=
  ∃ vn vg vc, Blk wx k #[.int .i64 M.kind, strV M.d, vn, vg, .bool M.s.on, .int .i64 M.s.kind, .bool M.s.pict, .bool M.s.odd, vc] 41 ∧ RI wx vn M.n ∧ RI wx vg M.g ∧ RI wx vc M.c ∧ (∀ j, OffM j v → OffM j (mchV M vn vg vc)) ∧ Below w.heap.size w wx
theorem rb15_put {w w1 : World} {v : Value} {M : MS} {k : Nat} {z0 z1 z2 z3 z4 z5 z6 z7 z8 : Value} {pn pg pc : Option Addr} {cn cg cc : Nat} (hk : w.heap.size ≤ k) (hx : Blk w1 k #[z0, z1, z2, z3, z4, z5, z6, z7, z8] 41)
    (hr : RM w1 (.agg (cellsM M.kind ⟨M.d.toArray⟩ pn M.n.length cn pg M.g.length cg M.s.on M.s.kind M.s.pict M.s.odd pc M.c.length cc)) M) (ho : ∀ j, OffM j v → OffM j (.agg (cellsM M.kind ⟨M.d.toArray⟩ pn M.n.length cn pg M.g.length cg M.s.on M.s.kind M.s.pict M.s.odd pc M.c.length cc)))
    (hok : OffM k v) (hb : Below w.heap.size w w1) :
    RB15 w v M k (set9 w1 k (.int .i64 M.kind) (.string ⟨M.d.toArray⟩) (.slice pn M.n.length cn) (.slice pg M.g.length cg) (.bool M.s.on) (.int .i64 M.s.kind) (.bool M.s.pict) (.bool M.s.odd) (.slice pc M.c.length cc)) := by
  have hs := same_set9 w1 k (.int .i64 M.kind) (.string ⟨M.d.toArray⟩) (.slice pn M.n.length cn) (.slice pg M.g.length cg) (.bool M.s.on) (.int .i64 M.s.kind) (.bool M.s.pict) (.bool M.s.odd) (.slice pc M.c.length cc)
  have h := rm_but hr hs (fun j e => e ▸ ho k hok)
  obtain ⟨un, ug, uc, he, h1, h2, h3⟩ := h
  unfold mchV strV cellsM at he
  have e1 : un = .slice pn M.n.length cn ∧ ug = .slice pg M.g.length cg ∧ uc = .slice pc M.c.length cc := by
    injection he with he
    simp at he
    exact ⟨he.1.symm, he.2.1.symm, he.2.2.symm⟩
  obtain ⟨rfl, rfl, rfl⟩ := e1
  exact ⟨_, _, _, blk_set9 hx _ _ _ _ _ _ _ _ _, h1, h2, h3, ho, below_set9 hb hk _ _ _ _ _ _ _ _ _⟩
/-- what a kind's machine does with an item: its function, by its place in the list -/
abbrev feeds15 : Array Value := #[.func (.func 29) #[] #[], .func (.func 30) #[] #[], .func (.func 31) #[] #[], .func (.func 32) #[] #[], .func (.func 33) #[] #[]]
theorem method15 {M : MS} (x : Int) (h : Mch.Sane M) (hx : I64 x) : ∃ (kk G : Nat), M.kind = (kk : Int) ∧ kk < 5 ∧ feeds15[kk]? = some (.func (.func G) #[] #[]) ∧ (∀ (xs : Array Value) (W' : World), (callFunc G xs).run Tryz.prog W' = .ok (.enter G xs) W') ∧ ∀ W' va, Tabs W' → RM W' va M → Calls Tryz.prog G #[va, .int .i64 x] W' (FedM va (Mch.feedK M x) W') := by
  have hsm := Mch.small_sane ((Mch.sane_iff M).2 h)
  rcases Mch.kind_cases h with h0 | h0 | h0 | h0 | h0
  · exact ⟨0, _, h0, by omega, rfl, (fun xs W' => by simp [go_sem]), fun W' va hT hr => decode15_any va M x W' hT h0 h hr⟩
  · exact ⟨1, _, h0, by omega, rfl, (fun xs W' => by simp [go_sem]), fun W' va hT hr => norm15_any va M x W' h0 h hsm hr⟩
  · exact ⟨2, _, h0, by omega, rfl, (fun xs W' => by simp [go_sem]), fun W' va hT hr => fold15_any va M x W' h0 h hsm hx hr⟩
  · exact ⟨3, _, h0, by omega, rfl, (fun xs W' => by simp [go_sem]), fun W' va hT hr => segment15_any va M x W' h0 h hsm hr⟩
  · refine ⟨4, _, h0, by omega, rfl, (fun xs W' => by simp [go_sem]), fun W' va hT hr => ?_⟩
    by_cases e : x = -1
    · subst e
      exact cut15_any va M W' h0 h hsm hr
    · exact frame15_any va M x W' h0 e h hsm hr
/-- .. at the end -/
abbrev ends15 : Array Value := #[.func (.func 40) #[] #[], .func (.func 41) #[] #[], .func (.func 41) #[] #[], .func (.func 42) #[] #[], .func (.func 43) #[] #[]]
theorem ending15 {M : MS} (h : Mch.Sane M) : ∃ (kk G : Nat), M.kind = (kk : Int) ∧ kk < 5 ∧ ends15[kk]? = some (.func (.func G) #[] #[]) ∧ (∀ (xs : Array Value) (W' : World), (callFunc G xs).run Tryz.prog W' = .ok (.enter G xs) W') ∧ ∀ W' va, Tabs W' → RM W' va M → Calls Tryz.prog G #[va] W' (Makes (Mch.endK M) W') := by
  have hsm := Mch.small_sane ((Mch.sane_iff M).2 h)
  rcases Mch.kind_cases h with h0 | h0 | h0 | h0 | h0
  · exact ⟨0, _, h0, by omega, rfl, (fun xs W' => by simp [go_sem]), fun W' va hT hr => endDecode15_any va M W' hT h0 hr⟩
  · exact ⟨1, _, h0, by omega, rfl, (fun xs W' => by simp [go_sem]), fun W' va hT hr => endNorm15_any va M W' (.inl h0) hsm hr⟩
  · exact ⟨2, _, h0, by omega, rfl, (fun xs W' => by simp [go_sem]), fun W' va hT hr => endNorm15_any va M W' (.inr h0) hsm hr⟩
  · exact ⟨3, _, h0, by omega, rfl, (fun xs W' => by simp [go_sem]), fun W' va hT hr => endSegment15_any va M W' h0 h hsm hr⟩
  · exact ⟨4, _, h0, by omega, rfl, (fun xs W' => by simp [go_sem]), fun W' va hT hr => endFramer15_any va M W' h0 hr⟩
set_option maxHeartbeats 12800000 in
set_option maxRecDepth 100000 in
theorem feed15_any (v : Value) (m : MS) (x : Int) (w : World) (hT : Tabs w) (hs : Mch.Small m) (hv : RM w v m) (hx : I64 x) : Calls Tryz.prog 10 #[v, .int .i64 x] w (FedM v (Mch.feedM m x) w) := by
  have hv0 := hv
  unfold Mch.feedM
  obtain ⟨vn, vg, vc, rfl, hvn, hvg, hvc⟩ := hv
  obtain ⟨pn, cn, rfl⟩ := ri_form hvn
  obtain ⟨pg, cg, rfl⟩ := ri_form hvg
  obtain ⟨pc, cc, rfl⟩ := ri_form hvc
  have hbox0 := blk_new w #[.int .i64 m.kind, .string ⟨m.d.toArray⟩, .slice pn m.n.length cn, .slice pg m.g.length cg, .bool m.s.on, .int .i64 m.s.kind, .bool m.s.pict, .bool m.s.odd, .slice pc m.c.length cc] 41
  have hbox := blk_alloc hbox0 (.cells (bare9 0) 41)
  have hres := blk_new (w.alloc (.cells #[.int .i64 m.kind, .string ⟨m.d.toArray⟩, .slice pn m.n.length cn, .slice pg m.g.length cg, .bool m.s.on, .int .i64 m.s.kind, .bool m.s.pict, .bool m.s.odd, .slice pc m.c.length cc] 41)) (bare9 0) 41
  rw [World.size_alloc] at hres
  have hb0 := (below_new w (.cells #[.int .i64 m.kind, .string ⟨m.d.toArray⟩, .slice pn m.n.length cn, .slice pg m.g.length cg, .bool m.s.on, .int .i64 m.s.kind, .bool m.s.pict, .bool m.s.odd, .slice pc m.c.length cc] 41)).alloc (by simp) (.cells (bare9 0) 41)
  obtain ⟨W, hW⟩ : ∃ W, (w.alloc (.cells #[.int .i64 m.kind, .string ⟨m.d.toArray⟩, .slice pn m.n.length cn, .slice pg m.g.length cg, .bool m.s.on, .int .i64 m.s.kind, .bool m.s.pict, .bool m.s.odd, .slice pc m.c.length cc] 41)).alloc (.cells (bare9 0) 41) = W := ⟨_, rfl⟩
  rw [hW] at hbox hres hb0
  clear hbox0
  replace hW := Lib.hid hW
  have hkn := known15_any _ m W (tabs_below15 hT hb0) hs (rm_below hv0 hb0)
  have hsn := (Mch.sane_iff _).1 (Mch.as_sane m)
  have hok := rm_off hv0 (Nat.le_refl w.heap.size)
  have hok1 := rm_off hv0 (Nat.le_succ w.heap.size)
  unfold Known15 at hkn
  obtain ⟨M, hM⟩ : ∃ M, Mch.asM m = M := ⟨_, rfl⟩
  rw [hM] at hkn hsn ⊢
  obtain ⟨q, hq⟩ : ∃ q, Mch.feedK M x = q := ⟨_, rfl⟩
  rw [hq]
  unfold mchV strV at hkn hok hok1 ⊢
  replace hkn := Lib.hid hkn
  replace hsn := Lib.hid hsn
  replace hok := Lib.hid hok
  replace hok1 := Lib.hid hok1
  replace hbox := Lib.hid hbox
  replace hb0 := Lib.hid hb0
  replace hv0 := Lib.hid hv0
  replace hvn := Lib.hid hvn
  replace hvg := Lib.hid hvg
  replace hvc := Lib.hid hvc
  replace hM := Lib.hid hM
  replace hT := Lib.hid hT
  replace hres := Lib.hid hres
  replace hx := Lib.hid hx
  replace hq := Lib.hid hq
  clear hs
  go_enter Tryz.func10, Tryz.ntmps10
  go_upto_region 1 with (fail)
  rw [hW.out]
  obtain ⟨k0, k1, k2, k3, k4, k5, k6, k7, k8⟩ := held9 hbox.out
  go_cut [] (fun wx => RB15 w (.agg #[.int .i64 m.kind, .string ⟨m.d.toArray⟩, .slice pn m.n.length cn, .slice pg m.g.length cg, .bool m.s.on, .int .i64 m.s.kind, .bool m.s.pict, .bool m.s.odd, .slice pc m.c.length cc]) M w.heap.size wx ∧ Blk wx (w.heap.size + 1) (bare9 0) 41)
  case first =>
    go_wp2_with fail
    refine hkn.out.mono ?_
    rintro e w1 ⟨va, rfl, ra, oa, q1⟩
    obtain ⟨qn, dn, qg, dg, qc, dc, rfl⟩ := rm_form ra
    have x1 := blk_below hbox.out q1
    have b1 := below_on hb0.out q1
    have hrb := Lib.hid (rb15_put (Nat.le_refl w.heap.size) x1 ra oa hok.out b1)
    have r1 := Lib.hid (blk_but9 (blk_below hres.out q1) (show w.heap.size + 1 ≠ w.heap.size by omega) (.int .i64 M.kind) (.string ⟨M.d.toArray⟩) (.slice qn M.n.length dn) (.slice qg M.g.length dg) (.bool M.s.on) (.int .i64 M.s.kind) (.bool M.s.pict) (.bool M.s.odd) (.slice qc M.c.length dc))
    unfold cellsM
    obtain ⟨y0, y1, y2, y3, y4, y5, y6, y7, y8⟩ := held9 x1
    have fy0 := blk_thaw x1 0
    have fy1 := blk_thaw x1 1
    have fy2 := blk_thaw x1 2
    have fy3 := blk_thaw x1 3
    have fy4 := blk_thaw x1 4
    have fy5 := blk_thaw x1 5
    have fy6 := blk_thaw x1 6
    have fy7 := blk_thaw x1 7
    have fy8 := blk_thaw x1 8
    clear x1 b1 ra oa q1 k0 k1 k2 k3 k4 k5 k6 k7 k8
    go_wp2_with fail
    go_meet
    have hA := hrb.out
    unfold set9 at hA
    have hB := r1.out
    unfold set9 at hB
    exact ⟨hA, hB⟩
  case rest =>
    obtain ⟨⟨un, ug, uc, hbx, rn, rg, rc, hoff, hbw⟩, hrs⟩ := hcut
    obtain ⟨qn, dn, rfl⟩ := ri_form rn
    obtain ⟨qg, dg, rfl⟩ := ri_form rg
    obtain ⟨qc, dc, rfl⟩ := ri_form rc
    have hTc := Lib.hid (tabs_below15 hT.out hbw)
    clear k0 k1 k2 k3 k4 k5 k6 k7 k8
    obtain ⟨kk, G, hkk, hk5, hG, hent, hmeth⟩ := method15 x hsn.out hx.out
    rw [hq.out] at hmeth
    have hrm : RowKit.Hid (RM wc (mchV M (.slice qn M.n.length dn) (.slice qg M.g.length dg) (.slice qc M.c.length dc)) M) := ⟨_, _, _, rfl, rn, rg, rc⟩
    unfold mchV strV at hrm
    unfold strV at hbx
    rw [hkk] at hbx hrm
    have x4 := blk_alloc hbx (.cells feeds15 43)
    have r4 := Lib.hid (blk_alloc hrs (.cells feeds15 43))
    have f4 := blk_new wc feeds15 43
    have b4 := Lib.hid (hbw.alloc hbw.size (.cells feeds15 43))
    have rm4 := Lib.hid (rm_below hrm.out (below_new wc (.cells feeds15 43)))
    have T4 := Lib.hid (tabs_below15 hTc.out (below_new wc (.cells feeds15 43)))
    have hlt4 := Lib.hid (show wc.heap.size ≠ w.heap.size + 1 by have := blk_lt hrs; omega)
    have hsz := Lib.hid (show w.heap.size ≤ wc.heap.size from hbw.size)
    have hrl := Lib.hid (blk_lt hrs)
    have hkI : (kk : Int) < 5 := by omega
    have hk0 : ¬ ((kk : Int) < 0) := by omega
    replace hkk := Lib.hid hkk
    replace hG := Lib.hid hG
    replace hmeth := Lib.hid hmeth
    replace hoff := Lib.hid hoff
    replace hbw := Lib.hid hbw
    replace hbx := Lib.hid hbx
    replace hrs := Lib.hid hrs
    replace rn := Lib.hid rn
    replace rg := Lib.hid rg
    replace rc := Lib.hid rc
    replace hsn := Lib.hid hsn
    go_upto_region 3 with (fail)
    obtain ⟨w4, hw4⟩ : ∃ w4, wc.alloc (.cells feeds15 43) = w4 := ⟨_, rfl⟩
    rw [hw4] at x4 r4 f4 b4 rm4 T4
    unfold feeds15 at hw4
    rw [hw4]
    replace hw4 := Lib.hid hw4
    replace x4 := Lib.hid x4
    replace f4 := Lib.hid f4
    refine wp_region_held_drew (S := fun w' => w'.cell? ⟨w.heap.size, 0, none⟩ = some (.int .i64 kk) ∧ w'.cell? ⟨w.heap.size, 1, none⟩ = some (.string ⟨M.d.toArray⟩) ∧ w'.cell? ⟨w.heap.size, 2, none⟩ = some (.slice qn M.n.length dn) ∧ w'.cell? ⟨w.heap.size, 3, none⟩ = some (.slice qg M.g.length dg) ∧ w'.cell? ⟨w.heap.size, 4, none⟩ = some (.bool M.s.on) ∧ w'.cell? ⟨w.heap.size, 5, none⟩ = some (.int .i64 M.s.kind) ∧ w'.cell? ⟨w.heap.size, 6, none⟩ = some (.bool M.s.pict) ∧ w'.cell? ⟨w.heap.size, 7, none⟩ = some (.bool M.s.odd) ∧ w'.cell? ⟨w.heap.size, 8, none⟩ = some (.slice qc M.c.length dc) ∧ w'.cell? ⟨wc.heap.size, kk, none⟩ = some (.func (.func G) #[] #[])) (by kernel_rfl) (⟨blk_cell x4.out 0 _ rfl, blk_cell x4.out 1 _ rfl, blk_cell x4.out 2 _ rfl, blk_cell x4.out 3 _ rfl, blk_cell x4.out 4 _ rfl, blk_cell x4.out 5 _ rfl, blk_cell x4.out 6 _ rfl, blk_cell x4.out 7 _ rfl, blk_cell x4.out 8 _ rfl, blk_cell f4.out kk _ hG.out⟩) (fun hS => ?_)
    refine' wpAnyH_take (i := 0) (oi := ⟨_, _, _, _, _, _⟩) (v := _) rfl (by kernel_rfl) (by kernel_rfl) (by kernel_rfl) (fun _ _ _ h => h) (Or.inl ⟨by rfl, ?hy0⟩) hS ?rest0
    case hy0 => (intro wz hSw; (try dsimp only at hSw); go_simp; try with_reducible rfl)
    try simp only [Act.put, List.setIfInBounds_toArray, List.set_cons_zero, List.set_cons_succ]
    refine' wpAnyH_take (i := 1) (oi := ⟨_, _, _, _, _, _⟩) (v := _) rfl (by kernel_rfl) (by kernel_rfl) (by kernel_rfl) (fun _ _ _ h => h) (Or.inl ⟨by rfl, ?hy1⟩) hS ?rest1
    case hy1 => (intro wz hSw; (try dsimp only at hSw); go_simp; try with_reducible rfl)
    try simp only [Act.put, List.setIfInBounds_toArray, List.set_cons_zero, List.set_cons_succ]
    refine' wpAnyH_take (i := 2) (oi := ⟨_, _, _, _, _, _⟩) (v := _) rfl (by kernel_rfl) (by kernel_rfl) (by kernel_rfl) (fun _ _ _ h => h) (Or.inl ⟨by rfl, ?hy2⟩) hS ?rest2
    case hy2 => (intro wz hSw; (try dsimp only at hSw); go_simp; try with_reducible rfl)
    try simp only [Act.put, List.setIfInBounds_toArray, List.set_cons_zero, List.set_cons_succ]
    refine' wpAnyH_take (i := 3) (oi := ⟨_, _, _, _, _, _⟩) (v := _) rfl (by kernel_rfl) (by kernel_rfl) (by kernel_rfl) (fun _ _ _ h => h) (Or.inl ⟨by rfl, ?hy3⟩) hS ?rest3
    case hy3 => (intro wz hSw; (try dsimp only at hSw); go_simp; try with_reducible rfl)
    try simp only [Act.put, List.setIfInBounds_toArray, List.set_cons_zero, List.set_cons_succ]
    refine' wpAnyH_take (i := 4) (oi := ⟨_, _, _, _, _, _⟩) (v := _) rfl (by kernel_rfl) (by kernel_rfl) (by kernel_rfl) (fun _ _ _ h => h) (Or.inl ⟨by rfl, ?hy4⟩) hS ?rest4
    case hy4 => (intro wz hSw; (try dsimp only at hSw); go_simp; try with_reducible rfl)
    try simp only [Act.put, List.setIfInBounds_toArray, List.set_cons_zero, List.set_cons_succ]
    refine' wpAnyH_take (i := 5) (oi := ⟨_, _, _, _, _, _⟩) (v := _) rfl (by kernel_rfl) (by kernel_rfl) (by kernel_rfl) (fun _ _ _ h => h) (Or.inl ⟨by rfl, ?hy5⟩) hS ?rest5
    case hy5 => (intro wz hSw; (try dsimp only at hSw); go_simp; try with_reducible rfl)
    try simp only [Act.put, List.setIfInBounds_toArray, List.set_cons_zero, List.set_cons_succ]
    refine' wpAnyH_take (i := 6) (oi := ⟨_, _, _, _, _, _⟩) (v := _) rfl (by kernel_rfl) (by kernel_rfl) (by kernel_rfl) (fun _ _ _ h => h) (Or.inl ⟨by rfl, ?hy6⟩) hS ?rest6
    case hy6 => (intro wz hSw; (try dsimp only at hSw); go_simp; try with_reducible rfl)
    try simp only [Act.put, List.setIfInBounds_toArray, List.set_cons_zero, List.set_cons_succ]
    refine wpAnyH_ready (rs := [7]) (by kernel_rfl) (by simp) (AllReadyH.cons rfl (fun K hK => ?_) AllReadyH.nil)
    go_simp
    refine (hmeth.out _ _ (tabs_drew15 T4.out) (rm_drew rm4.out)).mono ?_
    rintro e w5 ⟨vt, vb, rfl, ra, rb, ho, q5⟩
    obtain ⟨pn', cn', pg', cg', pc', cc', rfl⟩ := rm_form ra
    obtain ⟨pb, cb, rfl⟩ := ri_form rb
    unfold cellsM at ra ho ⊢
    have r5 := blk_below (w := w4.drew) r4.out q5
    have b5 := Lib.hid (below_on (show Below w.heap.size w w4.drew from b4.out.drew) q5)
    have x5 := Lib.hid (blk_below (w := w4.drew) x4.out q5)
    have f5 := Lib.hid (blk_below (w := w4.drew) f4.out q5)
    replace ra := Lib.hid ra
    replace rb := Lib.hid rb
    replace ho := Lib.hid ho
    clear q5
    go_wp2_with fail
    refine hK.out _ _ (⟨blk_cell x5.out 0 _ rfl, blk_cell x5.out 1 _ rfl, blk_cell x5.out 2 _ rfl, blk_cell x5.out 3 _ rfl, blk_cell x5.out 4 _ rfl, blk_cell x5.out 5 _ rfl, blk_cell x5.out 6 _ rfl, blk_cell x5.out 7 _ rfl, blk_cell x5.out 8 _ rfl, blk_cell f5.out kk _ hG.out⟩) (fun hSn => ?_)
    clear hS
    have hS := hSn
    clear hSn
    clear hK K
    try simp only [Act.put, List.setIfInBounds_toArray, List.set_cons_zero, List.set_cons_succ]
    refine' wpAnyH_take (i := 8) (oi := ⟨_, _, _, _, _, _⟩) (v := _) rfl (by kernel_rfl) (by kernel_rfl) (by kernel_rfl) (fun _ _ _ h => h) (Or.inl ⟨by rfl, ?hy8⟩) hS ?rest8
    case hy8 => (intro wz hSw; (try dsimp only at hSw); go_simp; try with_reducible rfl)
    try simp only [Act.put, List.setIfInBounds_toArray, List.set_cons_zero, List.set_cons_succ]
    refine' wpAnyH_take (i := 9) (oi := ⟨_, _, _, _, _, _⟩) (v := _) rfl (by kernel_rfl) (by kernel_rfl) (by kernel_rfl) (fun _ _ _ h => h) (Or.inl ⟨by rfl, ?hy9⟩) hS ?rest9
    case hy9 => (intro wz hSw; (try dsimp only at hSw); go_simp; try with_reducible rfl)
    try simp only [Act.put, List.setIfInBounds_toArray, List.set_cons_zero, List.set_cons_succ]
    obtain ⟨y0, y1, y2, y3, y4, y5, y6, y7, y8⟩ := held9 r5
    have fy0 := blk_thaw r5 0
    have fy1 := blk_thaw r5 1
    have fy2 := blk_thaw r5 2
    have fy3 := blk_thaw r5 3
    have fy4 := blk_thaw r5 4
    have fy5 := blk_thaw r5 5
    have fy6 := blk_thaw r5 6
    have fy7 := blk_thaw r5 7
    have fy8 := blk_thaw r5 8
    replace r5 := Lib.hid r5
    have x6 := blk_but9 x5.out (show w.heap.size ≠ w.heap.size + 1 by omega) (.int .i64 q.1.kind) (.string ⟨q.1.d.toArray⟩) (.slice pn' q.1.n.length cn') (.slice pg' q.1.g.length cg') (.bool q.1.s.on) (.int .i64 q.1.s.kind) (.bool q.1.s.pict) (.bool q.1.s.odd) (.slice pc' q.1.c.length cc')
    have f6 := blk_but9 f5.out hlt4.out (.int .i64 q.1.kind) (.string ⟨q.1.d.toArray⟩) (.slice pn' q.1.n.length cn') (.slice pg' q.1.g.length cg') (.bool q.1.s.on) (.int .i64 q.1.s.kind) (.bool q.1.s.pict) (.bool q.1.s.odd) (.slice pc' q.1.c.length cc')
    unfold set9 at x6 f6
    replace x6 := Lib.hid x6
    replace f6 := Lib.hid f6
    refine wpAnyH_ready (rs := [10]) (by kernel_rfl) (by simp) (AllReadyH.cons rfl (fun K hK => ?_) AllReadyH.nil)
    go_simp
    go_wp2_with fail
    refine hK.out _ _ (⟨blk_cell x6.out 0 _ rfl, blk_cell x6.out 1 _ rfl, blk_cell x6.out 2 _ rfl, blk_cell x6.out 3 _ rfl, blk_cell x6.out 4 _ rfl, blk_cell x6.out 5 _ rfl, blk_cell x6.out 6 _ rfl, blk_cell x6.out 7 _ rfl, blk_cell x6.out 8 _ rfl, blk_cell f6.out kk _ hG.out⟩) (fun hSn => ?_)
    clear hS
    have hS := hSn
    clear hSn
    clear hK K
    try simp only [Act.put, List.setIfInBounds_toArray, List.set_cons_zero, List.set_cons_succ]
    refine' wpAnyH_take (i := 11) (oi := ⟨_, _, _, _, _, _⟩) (v := _) rfl (by kernel_rfl) (by kernel_rfl) (by kernel_rfl) (fun _ _ _ h => h) (Or.inl ⟨by rfl, ?hy11⟩) hS ?rest11
    case hy11 => (intro wz hSw; (try dsimp only at hSw); go_simp; try with_reducible rfl)
    try simp only [Act.put, List.setIfInBounds_toArray, List.set_cons_zero, List.set_cons_succ]
    refine wpAnyH_done (by kernel_rfl) ?_ _
    go_wp2_with fail
    have hs9 := same_set9 w5 (w.heap.size + 1) (.int .i64 q.1.kind) (.string ⟨q.1.d.toArray⟩) (.slice pn' q.1.n.length cn') (.slice pg' q.1.g.length cg') (.bool q.1.s.on) (.int .i64 q.1.s.kind) (.bool q.1.s.pict) (.bool q.1.s.odd) (.slice pc' q.1.c.length cc')
    have hb9 := below_set9 b5.out (Nat.le_succ w.heap.size) (.int .i64 q.1.kind) (.string ⟨q.1.d.toArray⟩) (.slice pn' q.1.n.length cn') (.slice pg' q.1.g.length cg') (.bool q.1.s.on) (.int .i64 q.1.s.kind) (.bool q.1.s.pict) (.bool q.1.s.odd) (.slice pc' q.1.c.length cc')
    have hle : ∀ j, j < wc.heap.size → j < w4.drew.heap.size := fun j hj => by
      have : w4.drew.heap.size = w4.heap.size := rfl
      rw [this, ← hw4.out]
      simp
      omega
    have hoff2 := fun j h => hoff.out j h
    unfold mchV strV at hoff2
    rw [hkk.out] at hoff2
    have ho1 := ho.out (w.heap.size + 1) (hle _ hrl.out) (hoff2 _ hok1.out)
    have hfin : FedM _ q w _ _ := ⟨_, _, rfl, rm_but ra.out hs9 (fun j e => e ▸ ho1.1), ri_but rb.out hs9 (fun j e => e ▸ ho1.2), fun j hj hvj => ho.out j (hle _ (Nat.lt_of_lt_of_le hj hsz.out)) (hoff2 j hvj), hb9⟩
    unfold set9 at hfin
    have r5' := r5.out
    have n9 := blk_set9 r5' (.int .i64 q.1.kind) (.string ⟨q.1.d.toArray⟩) (.slice pn' q.1.n.length cn') (.slice pg' q.1.g.length cg') (.bool q.1.s.on) (.int .i64 q.1.s.kind) (.bool q.1.s.pict) (.bool q.1.s.odd) (.slice pc' q.1.c.length cc')
    unfold set9 at n9
    obtain ⟨z0, z1, z2, z3, z4, z5, z6, z7, z8⟩ := held9 n9
    refine bodyPost_ret (v := .tuple #[.agg #[.int .i64 q.1.kind, .string ⟨q.1.d.toArray⟩, .slice pn' q.1.n.length cn', .slice pg' q.1.g.length cg', .bool q.1.s.on, .int .i64 q.1.s.kind, .bool q.1.s.pict, .bool q.1.s.odd, .slice pc' q.1.c.length cc'], .slice pb q.2.length cb]) ?_ rfl ?_
    · simp [results, Tryz.results10, go_sem, z0, z1, z2, z3, z4, z5, z6, z7, z8]
    · exact hfin
theorem feedC15 : FeedC15 := fun v m x w hT hs hv hx => feed15_any v m x w hT hs hv hx
set_option maxHeartbeats 12800000 in
set_option maxRecDepth 100000 in
theorem end15_any (v : Value) (m : MS) (w : World) (hT : Tabs w) (hs : Mch.Small m) (hv : RM w v m) : Calls Tryz.prog 13 #[v] w (FedM v (Mch.endM m) w) := by
  have hv0 := hv
  unfold Mch.endM
  obtain ⟨vn, vg, vc, rfl, hvn, hvg, hvc⟩ := hv
  obtain ⟨pn, cn, rfl⟩ := ri_form hvn
  obtain ⟨pg, cg, rfl⟩ := ri_form hvg
  obtain ⟨pc, cc, rfl⟩ := ri_form hvc
  have hbox0 := blk_new w #[.int .i64 m.kind, .string ⟨m.d.toArray⟩, .slice pn m.n.length cn, .slice pg m.g.length cg, .bool m.s.on, .int .i64 m.s.kind, .bool m.s.pict, .bool m.s.odd, .slice pc m.c.length cc] 41
  have hbox := blk_alloc hbox0 (.cells (bare9 0) 41)
  have hres := blk_new (w.alloc (.cells #[.int .i64 m.kind, .string ⟨m.d.toArray⟩, .slice pn m.n.length cn, .slice pg m.g.length cg, .bool m.s.on, .int .i64 m.s.kind, .bool m.s.pict, .bool m.s.odd, .slice pc m.c.length cc] 41)) (bare9 0) 41
  rw [World.size_alloc] at hres
  have hb0 := (below_new w (.cells #[.int .i64 m.kind, .string ⟨m.d.toArray⟩, .slice pn m.n.length cn, .slice pg m.g.length cg, .bool m.s.on, .int .i64 m.s.kind, .bool m.s.pict, .bool m.s.odd, .slice pc m.c.length cc] 41)).alloc (by simp) (.cells (bare9 0) 41)
  obtain ⟨W, hW⟩ : ∃ W, (w.alloc (.cells #[.int .i64 m.kind, .string ⟨m.d.toArray⟩, .slice pn m.n.length cn, .slice pg m.g.length cg, .bool m.s.on, .int .i64 m.s.kind, .bool m.s.pict, .bool m.s.odd, .slice pc m.c.length cc] 41)).alloc (.cells (bare9 0) 41) = W := ⟨_, rfl⟩
  rw [hW] at hbox hres hb0
  clear hbox0
  replace hW := Lib.hid hW
  have hkn := known15_any _ m W (tabs_below15 hT hb0) hs (rm_below hv0 hb0)
  have hsn := (Mch.sane_iff _).1 (Mch.as_sane m)
  have hok := rm_off hv0 (Nat.le_refl w.heap.size)
  have hok1 := rm_off hv0 (Nat.le_succ w.heap.size)
  unfold Known15 at hkn
  obtain ⟨M, hM⟩ : ∃ M, Mch.asM m = M := ⟨_, rfl⟩
  rw [hM] at hkn hsn ⊢
  obtain ⟨q, hq⟩ : ∃ q, (Mch.newM M.kind, Mch.endK M) = q := ⟨_, rfl⟩
  rw [hq]
  unfold mchV strV at hkn hok hok1 ⊢
  replace hkn := Lib.hid hkn
  replace hsn := Lib.hid hsn
  replace hok := Lib.hid hok
  replace hok1 := Lib.hid hok1
  replace hbox := Lib.hid hbox
  replace hb0 := Lib.hid hb0
  replace hv0 := Lib.hid hv0
  replace hvn := Lib.hid hvn
  replace hvg := Lib.hid hvg
  replace hvc := Lib.hid hvc
  replace hM := Lib.hid hM
  replace hT := Lib.hid hT
  replace hres := Lib.hid hres
  replace hq := Lib.hid hq
  clear hs
  go_enter Tryz.func13, Tryz.ntmps13
  go_upto_region 1 with (fail)
  rw [hW.out]
  obtain ⟨k0, k1, k2, k3, k4, k5, k6, k7, k8⟩ := held9 hbox.out
  go_cut [] (fun wx => RB15 w (.agg #[.int .i64 m.kind, .string ⟨m.d.toArray⟩, .slice pn m.n.length cn, .slice pg m.g.length cg, .bool m.s.on, .int .i64 m.s.kind, .bool m.s.pict, .bool m.s.odd, .slice pc m.c.length cc]) M w.heap.size wx ∧ Blk wx (w.heap.size + 1) (bare9 0) 41)
  case first =>
    go_wp2_with fail
    refine hkn.out.mono ?_
    rintro e w1 ⟨va, rfl, ra, oa, q1⟩
    obtain ⟨qn, dn, qg, dg, qc, dc, rfl⟩ := rm_form ra
    have x1 := blk_below hbox.out q1
    have b1 := below_on hb0.out q1
    have hrb := Lib.hid (rb15_put (Nat.le_refl w.heap.size) x1 ra oa hok.out b1)
    have r1 := Lib.hid (blk_but9 (blk_below hres.out q1) (show w.heap.size + 1 ≠ w.heap.size by omega) (.int .i64 M.kind) (.string ⟨M.d.toArray⟩) (.slice qn M.n.length dn) (.slice qg M.g.length dg) (.bool M.s.on) (.int .i64 M.s.kind) (.bool M.s.pict) (.bool M.s.odd) (.slice qc M.c.length dc))
    unfold cellsM
    obtain ⟨y0, y1, y2, y3, y4, y5, y6, y7, y8⟩ := held9 x1
    have fy0 := blk_thaw x1 0
    have fy1 := blk_thaw x1 1
    have fy2 := blk_thaw x1 2
    have fy3 := blk_thaw x1 3
    have fy4 := blk_thaw x1 4
    have fy5 := blk_thaw x1 5
    have fy6 := blk_thaw x1 6
    have fy7 := blk_thaw x1 7
    have fy8 := blk_thaw x1 8
    clear x1 b1 ra oa q1 k0 k1 k2 k3 k4 k5 k6 k7 k8
    go_wp2_with fail
    go_meet
    have hA := hrb.out
    unfold set9 at hA
    have hB := r1.out
    unfold set9 at hB
    exact ⟨hA, hB⟩
  case rest =>
    obtain ⟨⟨un, ug, uc, hbx, rn, rg, rc, hoff, hbw⟩, hrs⟩ := hcut
    obtain ⟨qn, dn, rfl⟩ := ri_form rn
    obtain ⟨qg, dg, rfl⟩ := ri_form rg
    obtain ⟨qc, dc, rfl⟩ := ri_form rc
    have hTc := Lib.hid (tabs_below15 hT.out hbw)
    clear k0 k1 k2 k3 k4 k5 k6 k7 k8
    obtain ⟨kk, G, hkk, hk5, hG, hent, hmeth⟩ := ending15 hsn.out
    obtain ⟨L, hL⟩ : ∃ L, Mch.endK M = L := ⟨_, rfl⟩
    rw [hL] at hmeth
    have hnk : Mch.newM M.kind = Mch.bare kk := by
      unfold Mch.newM
      rw [hkk, if_pos (by omega)]
    have hq2 := hq.out
    rw [hnk, hL] at hq2
    subst hq2
    clear hq
    have hnew := fun W' => new15_any (kk : Int) W'
    rw [if_pos (by omega)] at hnew
    have hrm : RowKit.Hid (RM wc (mchV M (.slice qn M.n.length dn) (.slice qg M.g.length dg) (.slice qc M.c.length dc)) M) := ⟨_, _, _, rfl, rn, rg, rc⟩
    unfold mchV strV at hrm
    unfold strV at hbx
    rw [hkk] at hbx hrm
    have x4 := blk_alloc hbx (.cells ends15 76)
    have r4 := Lib.hid (blk_alloc hrs (.cells ends15 76))
    have f4 := blk_new wc ends15 76
    have b4 := Lib.hid (hbw.alloc hbw.size (.cells ends15 76))
    have rm4 := Lib.hid (rm_below hrm.out (below_new wc (.cells ends15 76)))
    have T4 := Lib.hid (tabs_below15 hTc.out (below_new wc (.cells ends15 76)))
    have hlt4 := Lib.hid (show wc.heap.size ≠ w.heap.size + 1 by have := blk_lt hrs; omega)
    have hkI : (kk : Int) < 5 := by omega
    have hk0 : ¬ ((kk : Int) < 0) := by omega
    unfold Makes at hmeth
    replace hkk := Lib.hid hkk
    replace hG := Lib.hid hG
    replace hmeth := Lib.hid hmeth
    replace hL := Lib.hid hL
    replace hoff := Lib.hid hoff
    replace hbw := Lib.hid hbw
    replace hbx := Lib.hid hbx
    replace hrs := Lib.hid hrs
    replace rn := Lib.hid rn
    replace rg := Lib.hid rg
    replace rc := Lib.hid rc
    replace hsn := Lib.hid hsn
    replace hnew := Lib.hid hnew
    replace hnk := Lib.hid hnk
    go_upto_region 3 with (fail)
    obtain ⟨w4, hw4⟩ : ∃ w4, wc.alloc (.cells ends15 76) = w4 := ⟨_, rfl⟩
    rw [hw4] at x4 r4 f4 b4 rm4 T4
    unfold ends15 at hw4
    rw [hw4]
    replace hw4 := Lib.hid hw4
    replace x4 := Lib.hid x4
    replace f4 := Lib.hid f4
    refine wp_region_held_drew (S := fun w' => w'.cell? ⟨w.heap.size, 0, none⟩ = some (.int .i64 kk) ∧ w'.cell? ⟨w.heap.size, 1, none⟩ = some (.string ⟨M.d.toArray⟩) ∧ w'.cell? ⟨w.heap.size, 2, none⟩ = some (.slice qn M.n.length dn) ∧ w'.cell? ⟨w.heap.size, 3, none⟩ = some (.slice qg M.g.length dg) ∧ w'.cell? ⟨w.heap.size, 4, none⟩ = some (.bool M.s.on) ∧ w'.cell? ⟨w.heap.size, 5, none⟩ = some (.int .i64 M.s.kind) ∧ w'.cell? ⟨w.heap.size, 6, none⟩ = some (.bool M.s.pict) ∧ w'.cell? ⟨w.heap.size, 7, none⟩ = some (.bool M.s.odd) ∧ w'.cell? ⟨w.heap.size, 8, none⟩ = some (.slice qc M.c.length dc) ∧ w'.cell? ⟨wc.heap.size, kk, none⟩ = some (.func (.func G) #[] #[])) (by kernel_rfl) (⟨blk_cell x4.out 0 _ rfl, blk_cell x4.out 1 _ rfl, blk_cell x4.out 2 _ rfl, blk_cell x4.out 3 _ rfl, blk_cell x4.out 4 _ rfl, blk_cell x4.out 5 _ rfl, blk_cell x4.out 6 _ rfl, blk_cell x4.out 7 _ rfl, blk_cell x4.out 8 _ rfl, blk_cell f4.out kk _ hG.out⟩) (fun hS => ?_)
    refine' wpAnyH_take (i := 0) (oi := ⟨_, _, _, _, _, _⟩) (v := _) rfl (by kernel_rfl) (by kernel_rfl) (by kernel_rfl) (fun _ _ _ h => h) (Or.inl ⟨by rfl, ?hy0⟩) hS ?rest0
    case hy0 => (intro wz hSw; (try dsimp only at hSw); go_simp; try with_reducible rfl)
    try simp only [Act.put, List.setIfInBounds_toArray, List.set_cons_zero, List.set_cons_succ]
    refine' wpAnyH_take (i := 1) (oi := ⟨_, _, _, _, _, _⟩) (v := _) rfl (by kernel_rfl) (by kernel_rfl) (by kernel_rfl) (fun _ _ _ h => h) (Or.inl ⟨by rfl, ?hy1⟩) hS ?rest1
    case hy1 => (intro wz hSw; (try dsimp only at hSw); go_simp; try with_reducible rfl)
    try simp only [Act.put, List.setIfInBounds_toArray, List.set_cons_zero, List.set_cons_succ]
    refine' wpAnyH_take (i := 3) (oi := ⟨_, _, _, _, _, _⟩) (v := _) rfl (by kernel_rfl) (by kernel_rfl) (by kernel_rfl) (fun _ _ _ h => h) (Or.inl ⟨by rfl, ?hy3⟩) hS ?rest3
    case hy3 => (intro wz hSw; (try dsimp only at hSw); go_simp; try with_reducible rfl)
    try simp only [Act.put, List.setIfInBounds_toArray, List.set_cons_zero, List.set_cons_succ]
    refine' wpAnyH_take (i := 4) (oi := ⟨_, _, _, _, _, _⟩) (v := _) rfl (by kernel_rfl) (by kernel_rfl) (by kernel_rfl) (fun _ _ _ h => h) (Or.inl ⟨by rfl, ?hy4⟩) hS ?rest4
    case hy4 => (intro wz hSw; (try dsimp only at hSw); go_simp; try with_reducible rfl)
    try simp only [Act.put, List.setIfInBounds_toArray, List.set_cons_zero, List.set_cons_succ]
    refine' wpAnyH_take (i := 5) (oi := ⟨_, _, _, _, _, _⟩) (v := _) rfl (by kernel_rfl) (by kernel_rfl) (by kernel_rfl) (fun _ _ _ h => h) (Or.inl ⟨by rfl, ?hy5⟩) hS ?rest5
    case hy5 => (intro wz hSw; (try dsimp only at hSw); go_simp; try with_reducible rfl)
    try simp only [Act.put, List.setIfInBounds_toArray, List.set_cons_zero, List.set_cons_succ]
    refine' wpAnyH_take (i := 6) (oi := ⟨_, _, _, _, _, _⟩) (v := _) rfl (by kernel_rfl) (by kernel_rfl) (by kernel_rfl) (fun _ _ _ h => h) (Or.inl ⟨by rfl, ?hy6⟩) hS ?rest6
    case hy6 => (intro wz hSw; (try dsimp only at hSw); go_simp; try with_reducible rfl)
    try simp only [Act.put, List.setIfInBounds_toArray, List.set_cons_zero, List.set_cons_succ]
    refine' wpAnyH_take (i := 7) (oi := ⟨_, _, _, _, _, _⟩) (v := _) rfl (by kernel_rfl) (by kernel_rfl) (by kernel_rfl) (fun _ _ _ h => h) (Or.inl ⟨by rfl, ?hy7⟩) hS ?rest7
    case hy7 => (intro wz hSw; (try dsimp only at hSw); go_simp; try with_reducible rfl)
    try simp only [Act.put, List.setIfInBounds_toArray, List.set_cons_zero, List.set_cons_succ]
    refine' wpAnyH_take (i := 8) (oi := ⟨_, _, _, _, _, _⟩) (v := _) rfl (by kernel_rfl) (by kernel_rfl) (by kernel_rfl) (fun _ _ _ h => h) (Or.inl ⟨by rfl, ?hy8⟩) hS ?rest8
    case hy8 => (intro wz hSw; (try dsimp only at hSw); go_simp; try with_reducible rfl)
    try simp only [Act.put, List.setIfInBounds_toArray, List.set_cons_zero, List.set_cons_succ]
    refine wpAnyH_ready (rs := [2]) (by kernel_rfl) (by simp) (AllReadyH.cons rfl (fun K hK => ?_) AllReadyH.nil)
    go_simp
    go_at_call 18
    refine (hnew.out _).mono ?_
    rintro e w5 ⟨rfl, q5⟩
    have r5 := Lib.hid (blk_below (w := w4.drew) r4.out q5)
    have b5 := Lib.hid (below_on (show Below w.heap.size w w4.drew from b4.out.drew) q5)
    have x5 := Lib.hid (blk_below (w := w4.drew) x4.out q5)
    have f5 := Lib.hid (blk_below (w := w4.drew) f4.out q5)
    have rm5 := Lib.hid (rm_below (w := w4.drew) rm4.out q5)
    have T5 := Lib.hid (tabs_below15 (w := w4.drew) T4.out q5)
    clear q5
    go_wp2_with fail
    refine hK.out _ _ (⟨blk_cell x5.out 0 _ rfl, blk_cell x5.out 1 _ rfl, blk_cell x5.out 2 _ rfl, blk_cell x5.out 3 _ rfl, blk_cell x5.out 4 _ rfl, blk_cell x5.out 5 _ rfl, blk_cell x5.out 6 _ rfl, blk_cell x5.out 7 _ rfl, blk_cell x5.out 8 _ rfl, blk_cell f5.out kk _ hG.out⟩) (fun hSn => ?_)
    clear hS
    have hS := hSn
    clear hSn
    clear hK K
    try simp only [Act.put, List.setIfInBounds_toArray, List.set_cons_zero, List.set_cons_succ]
    refine wpAnyH_ready (rs := [9]) (by kernel_rfl) (by simp) (AllReadyH.cons rfl (fun K hK => ?_) AllReadyH.nil)
    go_simp
    refine (hmeth.out _ _ T5.out rm5.out).mono ?_
    rintro e w6 ⟨vb, rfl, ob, q6⟩
    obtain ⟨pb, cb, rfl⟩ := ri_form (ri_of_own ob)
    have r6 := blk_below r5.out q6
    have x6 := Lib.hid (blk_below x5.out q6)
    have f6 := Lib.hid (blk_below f5.out q6)
    have o6 := Lib.hid (ownI_mono ob b5.out.size)
    have b6 := Lib.hid (below_on b5.out q6)
    clear q6 ob
    go_wp2_with fail
    refine hK.out _ _ (⟨blk_cell x6.out 0 _ rfl, blk_cell x6.out 1 _ rfl, blk_cell x6.out 2 _ rfl, blk_cell x6.out 3 _ rfl, blk_cell x6.out 4 _ rfl, blk_cell x6.out 5 _ rfl, blk_cell x6.out 6 _ rfl, blk_cell x6.out 7 _ rfl, blk_cell x6.out 8 _ rfl, blk_cell f6.out kk _ hG.out⟩) (fun hSn => ?_)
    clear hS
    have hS := hSn
    clear hSn
    clear hK K
    try simp only [Act.put, List.setIfInBounds_toArray, List.set_cons_zero, List.set_cons_succ]
    obtain ⟨y0, y1, y2, y3, y4, y5, y6, y7, y8⟩ := held9 r6
    have fy0 := blk_thaw r6 0
    have fy1 := blk_thaw r6 1
    have fy2 := blk_thaw r6 2
    have fy3 := blk_thaw r6 3
    have fy4 := blk_thaw r6 4
    have fy5 := blk_thaw r6 5
    have fy6 := blk_thaw r6 6
    have fy7 := blk_thaw r6 7
    have fy8 := blk_thaw r6 8
    replace r6 := Lib.hid r6
    have x7 := blk_but9 x6.out (show w.heap.size ≠ w.heap.size + 1 by omega) (.int .i64 kk) (.string ⟨#[]⟩) nilV nilV (.bool false) (.int .i64 0) (.bool false) (.bool false) nilV
    have f7 := blk_but9 f6.out hlt4.out (.int .i64 kk) (.string ⟨#[]⟩) nilV nilV (.bool false) (.int .i64 0) (.bool false) (.bool false) nilV
    unfold set9 at x7 f7
    replace x7 := Lib.hid x7
    replace f7 := Lib.hid f7
    refine wpAnyH_ready (rs := [10]) (by kernel_rfl) (by simp) (AllReadyH.cons rfl (fun K hK => ?_) AllReadyH.nil)
    go_simp
    go_wp2_with fail
    refine hK.out _ _ (⟨blk_cell x7.out 0 _ rfl, blk_cell x7.out 1 _ rfl, blk_cell x7.out 2 _ rfl, blk_cell x7.out 3 _ rfl, blk_cell x7.out 4 _ rfl, blk_cell x7.out 5 _ rfl, blk_cell x7.out 6 _ rfl, blk_cell x7.out 7 _ rfl, blk_cell x7.out 8 _ rfl, blk_cell f7.out kk _ hG.out⟩) (fun hSn => ?_)
    clear hS
    have hS := hSn
    clear hSn
    clear hK K
    try simp only [Act.put, List.setIfInBounds_toArray, List.set_cons_zero, List.set_cons_succ]
    refine' wpAnyH_take (i := 11) (oi := ⟨_, _, _, _, _, _⟩) (v := _) rfl (by kernel_rfl) (by kernel_rfl) (by kernel_rfl) (fun _ _ _ h => h) (Or.inl ⟨by rfl, ?hy11⟩) hS ?rest11
    case hy11 => (intro wz hSw; (try dsimp only at hSw); go_simp; try with_reducible rfl)
    try simp only [Act.put, List.setIfInBounds_toArray, List.set_cons_zero, List.set_cons_succ]
    refine wpAnyH_done (by kernel_rfl) ?_ _
    go_wp2_with fail
    have e6 := r6.out
    have hfin := fed_gen (v := mchV m (.slice pn m.n.length cn) (.slice pg m.g.length cg) (.slice pc m.c.length cc)) (q := (Mch.bare kk, L)) r6.out (Nat.le_succ w.heap.size) ⟨ri_nil15 _, at_nil _ _ _⟩ ⟨ri_nil15 _, at_nil _ _ _⟩ ⟨ri_nil15 _, at_nil _ _ _⟩ ⟨ri_of_own o6.out, at_own o6.out e6⟩ b6.out
    unfold set9 strV at hfin
    have r3' := r6.out
    have n9 := blk_set9 r3' (.int .i64 kk) (.string ⟨#[]⟩) nilV nilV (.bool false) (.int .i64 0) (.bool false) (.bool false) nilV
    unfold set9 at n9
    obtain ⟨z0, z1, z2, z3, z4, z5, z6, z7, z8⟩ := held9 n9
    refine bodyPost_ret (v := .tuple #[.agg #[(.int .i64 kk), (.string ⟨#[]⟩), nilV, nilV, (.bool false), (.int .i64 0), (.bool false), (.bool false), nilV], .slice pb L.length cb]) ?_ rfl ?_
    · simp [results, Tryz.results13, go_sem, z0, z1, z2, z3, z4, z5, z6, z7, z8]
    · exact hfin
theorem endC15 : EndC15 := fun v m w hT hs hv => end15_any v m w hT hs hv
set_option maxHeartbeats 6400000 in
set_option maxRecDepth 100000 in
theorem cost15_any (v : Value) (m : MS) (w : World) (hT : Tabs w) (hs : Mch.Small m) (hv : RM w v m) : Calls Tryz.prog 22 #[v] w fun e w' => e = .returned (.int .i64 (Mch.costM m : Nat)) ∧ Below w.heap.size w w' := by
  have hv0 := hv
  have hcost : Mch.costM m = (Mch.asM m).d.length + (Mch.asM m).n.length + (Mch.asM m).g.length + (Mch.asM m).c.length := by
    unfold Mch.costM Mch.asM
    split
    · rfl
    · rfl
  rw [hcost]
  clear hcost
  obtain ⟨vn, vg, vc, rfl, hvn, hvg, hvc⟩ := hv
  obtain ⟨pn, cn, rfl⟩ := ri_form hvn
  obtain ⟨pg, cg, rfl⟩ := ri_form hvg
  obtain ⟨pc, cc, rfl⟩ := ri_form hvc
  have hbox := blk_new w #[.int .i64 m.kind, .string ⟨m.d.toArray⟩, .slice pn m.n.length cn, .slice pg m.g.length cg, .bool m.s.on, .int .i64 m.s.kind, .bool m.s.pict, .bool m.s.odd, .slice pc m.c.length cc] 41
  have hb0 := below_new w (.cells #[.int .i64 m.kind, .string ⟨m.d.toArray⟩, .slice pn m.n.length cn, .slice pg m.g.length cg, .bool m.s.on, .int .i64 m.s.kind, .bool m.s.pict, .bool m.s.odd, .slice pc m.c.length cc] 41)
  obtain ⟨W, hW⟩ : ∃ W, w.alloc (.cells #[.int .i64 m.kind, .string ⟨m.d.toArray⟩, .slice pn m.n.length cn, .slice pg m.g.length cg, .bool m.s.on, .int .i64 m.s.kind, .bool m.s.pict, .bool m.s.odd, .slice pc m.c.length cc] 41) = W := ⟨_, rfl⟩
  rw [hW] at hbox hb0
  replace hW := Lib.hid hW
  have hkn := known15_any _ m W (tabs_below15 hT hb0) hs (rm_below hv0 hb0)
  have hsn := (Mch.sane_iff _).1 (Mch.as_sane m)
  have hok := rm_off hv0 (Nat.le_refl w.heap.size)
  have hok1 := rm_off hv0 (Nat.le_succ w.heap.size)
  unfold Known15 at hkn
  obtain ⟨M, hM⟩ : ∃ M, Mch.asM m = M := ⟨_, rfl⟩
  rw [hM] at hkn hsn ⊢
  obtain ⟨N, hN⟩ : ∃ N : Nat, M.d.length + M.n.length + M.g.length + M.c.length = N := ⟨_, rfl⟩
  rw [hN]
  unfold mchV strV at hkn hok hok1 ⊢
  replace hkn := Lib.hid hkn
  replace hsn := Lib.hid hsn
  replace hok := Lib.hid hok
  replace hok1 := Lib.hid hok1
  replace hbox := Lib.hid hbox
  replace hb0 := Lib.hid hb0
  replace hv0 := Lib.hid hv0
  replace hvn := Lib.hid hvn
  replace hvg := Lib.hid hvg
  replace hvc := Lib.hid hvc
  replace hM := Lib.hid hM
  replace hT := Lib.hid hT
  replace hN := Lib.hid hN
  clear hs
  go_enter Tryz.func22, Tryz.ntmps22
  go_upto_region 1 with (fail)
  rw [hW.out]
  obtain ⟨k0, k1, k2, k3, k4, k5, k6, k7, k8⟩ := held9 hbox.out
  go_cut [] (fun wx => RB15 w (.agg #[.int .i64 m.kind, .string ⟨m.d.toArray⟩, .slice pn m.n.length cn, .slice pg m.g.length cg, .bool m.s.on, .int .i64 m.s.kind, .bool m.s.pict, .bool m.s.odd, .slice pc m.c.length cc]) M w.heap.size wx)
  case first =>
    go_wp2_with fail
    refine hkn.out.mono ?_
    rintro e w1 ⟨va, rfl, ra, oa, q1⟩
    obtain ⟨qn, dn, qg, dg, qc, dc, rfl⟩ := rm_form ra
    have x1 := blk_below hbox.out q1
    have b1 := below_on hb0.out q1
    have hrb := Lib.hid (rb15_put (Nat.le_refl w.heap.size) x1 ra oa hok.out b1)
    unfold cellsM
    obtain ⟨y0, y1, y2, y3, y4, y5, y6, y7, y8⟩ := held9 x1
    have fy0 := blk_thaw x1 0
    have fy1 := blk_thaw x1 1
    have fy2 := blk_thaw x1 2
    have fy3 := blk_thaw x1 3
    have fy4 := blk_thaw x1 4
    have fy5 := blk_thaw x1 5
    have fy6 := blk_thaw x1 6
    have fy7 := blk_thaw x1 7
    have fy8 := blk_thaw x1 8
    clear x1 b1 ra oa q1 k0 k1 k2 k3 k4 k5 k6 k7 k8
    go_wp2_with fail
    go_meet
    have hA := hrb.out
    unfold set9 at hA
    exact hA
  case rest =>
    obtain ⟨un, ug, uc, hbx, rn, rg, rc, hoff, hbw⟩ := hcut
    obtain ⟨qn, dn, rfl⟩ := ri_form rn
    obtain ⟨qg, dg, rfl⟩ := ri_form rg
    obtain ⟨qc, dc, rfl⟩ := ri_form rc
    have hTc := Lib.hid (tabs_below15 hT.out hbw)
    clear k0 k1 k2 k3 k4 k5 k6 k7 k8
    have hsm := Mch.small_sane ((Mch.sane_iff M).2 hsn.out)
    obtain ⟨s1, s2, s3, s4⟩ := hsm
    have hsd : (⟨M.d.toArray⟩ : ByteArray).size = M.d.length := by simp [ByteArray.size]
    obtain ⟨S, hS⟩ : ∃ S : ByteArray, (⟨M.d.toArray⟩ : ByteArray) = S := ⟨_, rfl⟩
    rw [hS] at hsd
    unfold strV at hbx
    rw [hS] at hbx
    have hN2 := hN.out
    rw [← hsd] at s1 hN2
    have hw1 := wraps_i64_63 ((S.size : Int) + (M.n.length : Int)) (by omega) (by omega)
    have hw2 := wraps_i64_63 ((S.size : Int) + (M.n.length : Int) + (M.g.length : Int)) (by omega) (by omega)
    have hw3 := wraps_i64_63 ((S.size : Int) + (M.n.length : Int) + (M.g.length : Int) + (M.c.length : Int)) (by omega) (by omega)
    obtain ⟨y0, y1, y2, y3, y4, y5, y6, y7, y8⟩ := held9 hbx
    replace hbx := Lib.hid hbx
    replace rn := Lib.hid rn
    replace rg := Lib.hid rg
    replace rc := Lib.hid rc
    replace hoff := Lib.hid hoff
    replace hbw := Lib.hid hbw
    replace hsn := Lib.hid hsn
    replace hS := Lib.hid hS
    replace hsd := Lib.hid hsd
    replace hN2 := Lib.hid hN2
    go_wp2_with fail
    go_ret
    exact ⟨by rw [← hN2.out]; simp, hbw.out⟩
theorem costC15 : CostC15 := fun v m w hT hs hv => cost15_any v m w hT hs hv
end Go.Proofs.YtiidjkhkcckmkaaGreatDoor
