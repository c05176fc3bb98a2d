/- The contract of layer 1's All. -/
import Derived.Test.YtcchcgllgodkhaaDoorA4
namespace Go.Proofs.YtcchcgllgodkhaaDoor
open Go.RowKit Go.Lib

/-- a slice value that reads as these bytes -/
def RBytes (w : World) (v : Value) (bs : List UInt8) : Prop :=
  (v = .slice none 0 0 ∧ bs = []) ∨ ∃ a cap, v = .slice (some a) bs.length cap ∧ (0 < bs.length → ∃ b off, a = ⟨b, off, none⟩ ∧ b < w.heap.size ∧ ∀ i (h : i < bs.length), w.cell? ⟨b, off + i, none⟩ = some (.int .u8 (bs[i].toNat : Int)))

/-- the loop of All -/
def AllRel (w : World) (bs : List UInt8) (k : Nat) (v : Value) (wr : World) : Prop :=
  Own (w.heap.size + 1) v (Dec.run ⟨#[]⟩ (bs.take k)).2 wr ∧ Box wr w.heap.size (.string (Dec.run ⟨#[]⟩ (bs.take k)).1) ∧ Below w.heap.size w wr

theorem allRel_start (w : World) (bs : List UInt8) : AllRel w bs 0 (.slice none 0 0) (w.alloc (.cells #[.string ⟨#[]⟩] 28)) :=
  ⟨own_nil _ _, box_new _ _ _, (Below.refl _ _).alloc (Nat.le_refl _) _⟩

theorem own_below {B : Nat} {v : Value} {l : List Int} {w w1 : World} {k : Nat} {x : Value} (h : Own B v l w) (_hx : Box w k x) (hb : Below w.heap.size w w1) : Own B v l w1 := by
  refine ⟨h.1, ?_⟩
  rcases h.2 with hn | ⟨g, cap, cur, hv, hg, hh, r⟩
  · exact .inl hn
  · exact .inr ⟨g, cap, cur, hv, hg, by rw [hb.block g (Array.getElem?_eq_some_iff.1 hh).1]; exact hh, r⟩

theorem box_set {w : World} {k : Nat} {v u : Value} (h : Box w k v) : Box (w.setCell ⟨k, 0, none⟩ u) k u :=
  ⟨by simpa using h.1, World.cell?_setCell_same _ _ _ h.2.1, by rw [World.frozen?_setCell]; exact h.2.2⟩

theorem allRel_step {w w3 : World} {bs : List UInt8} {k : Nat} {c : UInt8} {S T : ByteArray} {L : List Int} {v : Value} (hk : k < bs.length) (hc : bs[k] = c) (hS : (Dec.run ⟨#[]⟩ (bs.take k)).1 = S)
    (hT : (Dec.feed S c).1 = T) (hL : (Dec.feed S c).2 = L) (h1 : Own (w.heap.size + 1) v ((Dec.run ⟨#[]⟩ (bs.take k)).2 ++ L) w3) (h2 : Box w3 w.heap.size (.string T)) (h3 : Below w.heap.size w w3) : AllRel w bs (k + 1) v w3 := by
  have e : Dec.run ⟨#[]⟩ (bs.take (k + 1)) = (T, (Dec.run ⟨#[]⟩ (bs.take k)).2 ++ L) := by
    rw [List.take_succ_eq_append_getElem hk, hc, Dec.run_snoc, hS, hT, hL]
  unfold AllRel
  rw [e]
  exact ⟨h1, h2, h3⟩

theorem below_grown {B : Nat} {w0 w w1 : World} {v : Value} {l : List Int} {B' : Nat} (h : Below B w0 w) (hg : w.grownBy w1 v.ownBlock) (hB : B ≤ w.heap.size) (ho : Own B' v l w) (hBB : B ≤ B') : Below B w0 w1 :=
  h.grown hg hB (fun k hk => Nat.le_trans hBB (World.ownsRow.lt ho k hk).1)

theorem box_grown' {w w1 : World} {k : Nat} {x : Value} {v : Value} {l : List Int} {B' : Nat} (h : Box w k x) (hg : w.grownBy w1 v.ownBlock) (ho : Own B' v l w) (hk : k < B') : Box w1 k x := by
  obtain ⟨h0, h1, h2⟩ := h
  have hb := hg.block k h0 (fun e => by have := (World.ownsRow.lt ho k e.symm).1; omega)
  have := hg.size
  exact ⟨Nat.lt_of_lt_of_le h0 this, by rw [World.cell?_of_block (w := w) hb]; exact h1, by rw [World.frozen?_of_block (w := w) hb]; exact h2⟩

theorem allL_at {bs : List UInt8} {k : Nat} {S : ByteArray} (hk : k = bs.length) (hS : (Dec.run ⟨#[]⟩ (bs.take k)).1 = S) : Dec.allL bs = (Dec.run ⟨#[]⟩ (bs.take k)).2 ++ Dec.endL S := by
  subst hk
  rw [List.take_length] at hS ⊢
  unfold Dec.allL
  rw [hS]

theorem append_bounds {l k m : Nat} (h1 : l ≤ 2 * k) (h2 : k ≤ 100000) (h3 : m ≤ 2) : l + m ≤ maxLen ∧ (l + m) * 8 ≤ 140737488355328 := by
  unfold maxLen
  omega

set_option maxHeartbeats 800000 in
theorem all_some (b off cap : Nat) (bs : List UInt8) (w : World) (hT : Lib.Utf8Tabs 0 1 w) (hlen : bs.length ≤ 100000) (hb : b < w.heap.size) (hc : ∀ i (h : i < bs.length), w.cell? ⟨b, off + i, none⟩ = some (.int .u8 (bs[i].toNat : Int))) :
    Calls Tryd.prog 14 #[.slice (some ⟨b, off, none⟩) bs.length cap] w fun e w' => ∃ v, e = .returned v ∧ Own (w.heap.size + 1) v (Dec.allL bs) w' ∧ Below w.heap.size w w' := by
  obtain ⟨i0, hi, hz0, hz1, hz2⟩ := info_parts info_int
  have hc' := Lib.hid hc
  have hT' := Lib.hid hT
  clear hc hT
  go_enter Tryd.func14, Tryd.ntmps14
  go_wp2_with fail
  go_loopw [4, 10] (fun v i wr => ∃ k : Nat, k ≤ bs.length ∧ i = .int .i64 k ∧ AllRel w bs k v wr) (fun _ i _ => bs.length - (RowKit.intOf i).toNat)
  case atStart => exact ⟨0, Nat.zero_le _, rfl, allRel_start w bs⟩
  case round =>
    obtain ⟨k, hk, rfl, hr⟩ := hrel
    by_cases hlt : k < bs.length
    · obtain ⟨c, hcc⟩ : ∃ c, bs[k] = c := ⟨_, rfl⟩
      obtain ⟨hown, hbox, hbel⟩ := hr
      have hcell : wr.cell? ⟨b, off + k, none⟩ = some (.int .u8 (c.toNat : Int)) := by
        rw [hbel.cell hb, ← hcc]
        exact hc'.out k hlt
      have hown := Lib.hid hown
      have hbox' := Lib.hid hbox
      obtain ⟨z0, q0, r0⟩ := hbox
      obtain ⟨S, hS⟩ : ∃ S, (Dec.run ⟨#[]⟩ (bs.take k)).1 = S := ⟨_, rfl⟩
      rw [hS] at q0
      have hS := Lib.hid hS
      have hcc := Lib.hid hcc
      go_wp2_with fail
      refine (feed_any S c wr (Utf8Tabs_below hT'.out hbel)).mono ?_
      rintro e w2 ⟨tv, rfl, htold, hb2⟩
      have hbel2 := hbel.trans (hb2.mono hbel.size)
      have hown2 := own_below hown.out hbox'.out hb2
      obtain ⟨z2, q2, r2⟩ := box_below hbox'.out hb2
      have hfl := Dec.feed_len S c
      obtain ⟨T, hT2⟩ : ∃ T, (Dec.feed S c).1 = T := ⟨_, rfl⟩
      obtain ⟨L, hL⟩ : ∃ L, (Dec.feed S c).2 = L := ⟨_, rfl⟩
      rw [hL] at htold hfl
      rw [hT2]
      have hT2 := Lib.hid hT2
      have hL := Lib.hid hL
      have hrl := Dec.run_take_len ⟨#[]⟩ bs k
      have hown3 := Lib.hid (own_set hown2 ⟨w.heap.size, 0, none⟩ (.string T) (own_ne hown2 (by simp)))
      have htold3 := own_set htold ⟨w.heap.size, 0, none⟩ (.string T) (own_ne htold (by have := hbox'.out.1; simpa using this))
      clear hb2 hown2 htold
      have hbel3 := Lib.hid (hbel2.setCell (p := ⟨w.heap.size, 0, none⟩) (Nat.le_refl _) (.string T))
      rcases own_src htold3 with ⟨rfl, hLnil⟩ | ⟨g, gcap, rfl, hg, hgl, hsrc⟩
      · have hLnil := Lib.hid hLnil
        clear htold3 hbel hbel2
        go_wp2_with (at_builtin; refine wpList_append_own_none rfl _ _ 25 rfl (w.heap.size + 1) 3 i0 1 Tryd.underlying25 hi _ _ _ rfl hown3.out rfl ?_)
        go_roundw
        case rel => exact ⟨k + 1, by omega, by go_num, allRel_step hlt hcc.out hS.out hT2.out (hL.out.trans hLnil.out) (by rw [List.append_nil]; exact hown3.out) (box_set ⟨z2, q2, r2⟩) hbel3.out⟩
        case measure => simp [RowKit.intOf]; omega
      · have hab := append_bounds hrl (show k ≤ 100000 by omega) hfl
        obtain ⟨hab1, hab2⟩ := hab
        have hsrc := Lib.hid hsrc
        have hBz := hbel3.out.size
        have hz3 := hown3
        have hlen3 := box_set (u := Value.string T) ⟨z2, q2, r2⟩
        have hl3 := Lib.hid hlen3
        clear htold3 hbel hbel2 hlen3
        go_wp2_with (at_builtin; refine wpList_append_own _ rfl _ _ 25 rfl (w.heap.size + 1) 3 i0 (.int .i64 0) 1 8 Tryd.underlying25 hi hz0 hz1 hz2 rfl (by decide) _ _ _ rfl hown3.out ⟨g, 0, none⟩ L.length gcap (L.map (Value.int .i64)) rfl (by simp) hsrc.out (ints_oneCell L) hab1 hab2 hl3.out.1 ?_; intro v5 w5 hown5 hgrow5 _)
        go_roundw
        case rel => exact ⟨k + 1, by omega, by go_num, allRel_step hlt hcc.out hS.out hT2.out hL.out (own_of_row hown5 (by simp) (by simp)) (box_grown' hl3.out hgrow5 hown3.out (by omega)) (below_grown hbel3.out hgrow5 hbel3.out.size hown3.out (by omega))⟩
        case measure => simp [RowKit.intOf]; omega
    · obtain ⟨hown, hbox, hbel⟩ := hr
      have hown := Lib.hid hown
      have hbox' := Lib.hid hbox
      obtain ⟨z0, q0, r0⟩ := hbox
      obtain ⟨S, hS⟩ : ∃ S, (Dec.run ⟨#[]⟩ (bs.take k)).1 = S := ⟨_, rfl⟩
      rw [hS] at q0
      have hS := Lib.hid hS
      go_wp2_with fail
      refine (end_any S wr (Utf8Tabs_below hT'.out hbel)).mono ?_
      rintro e w2 ⟨tv, rfl, htold, hb2⟩
      have hbel2 := hbel.trans (hb2.mono hbel.size)
      have hown2 := own_below hown.out hbox'.out hb2
      have hkk : k = bs.length := by omega
      have hfin := allL_at hkk hS.out
      obtain ⟨L, hL⟩ : ∃ L : List Int, (if Dec.begB S then [65533] else []) = L := ⟨_, rfl⟩
      rw [show (Dec.endL S) = L from hL] at hfin
      have hfl : L.length ≤ 2 := by rw [← hL]; split <;> simp
      rw [hL] at htold
      have hrl := Dec.run_take_len ⟨#[]⟩ bs k
      have hown2 := Lib.hid hown2
      have hfin := Lib.hid hfin
      have hwz := hbox'.out.1
      have hb2z := hb2.size
      clear hb2 hL hkk
      rcases own_src htold with ⟨rfl, hLnil⟩ | ⟨g, gcap, rfl, hg, hgl, hsrc⟩
      · have hLnil := Lib.hid hLnil
        clear htold hbel
        go_wp2_with (at_builtin; refine wpList_append_own_none rfl _ _ 25 rfl (w.heap.size + 1) 3 i0 1 Tryd.underlying25 hi _ _ _ rfl hown2.out rfl ?_)
        go_ret
        exact ⟨_, rfl, by rw [hfin.out, hLnil.out, List.append_nil]; exact hown2.out, hbel2⟩
      · have hab := append_bounds hrl (show k ≤ 100000 by omega) hfl
        obtain ⟨hab1, hab2⟩ := hab
        have hsrc := Lib.hid hsrc
        clear htold hbel
        go_wp2_with (at_builtin; refine wpList_append_own _ rfl _ _ 25 rfl (w.heap.size + 1) 3 i0 (.int .i64 0) 1 8 Tryd.underlying25 hi hz0 hz1 hz2 rfl (by decide) _ _ _ rfl hown2.out ⟨g, 0, none⟩ L.length gcap (L.map (Value.int .i64)) rfl (by simp) hsrc.out (ints_oneCell L) hab1 hab2 (by omega) ?_; intro v5 w5 hown5 hgrow5 _)
        go_ret
        exact ⟨_, rfl, own_of_row hown5 (by rw [hfin.out]; simp) (by rw [hfin.out]; simp), below_grown hbel2 hgrow5 hbel2.size hown2.out (by omega)⟩

/-- of an empty slice -/
theorem all_none (ap : Option Addr) (ac : Nat) (w : World) (hT : Lib.Utf8Tabs 0 1 w) :
    Calls Tryd.prog 14 #[.slice ap 0 ac] w fun e w' => ∃ v, e = .returned v ∧ Own (w.heap.size + 1) v (Dec.allL []) w' ∧ Below w.heap.size w w' := by
  obtain ⟨i0, hi, hz0, hz1, hz2⟩ := info_parts info_int
  have hbox := box_new w (.string ⟨#[]⟩) 28
  have hbel := (Below.refl w.heap.size w).alloc (Nat.le_refl _) (.cells #[.string ⟨#[]⟩] 28)
  have hT1 := Lib.hid (tabs_alloc hT (.cells #[.string ⟨#[]⟩] 28))
  have hown := Lib.hid (own_nil (w.heap.size + 1) (w.alloc (.cells #[.string ⟨#[]⟩] 28)))
  clear hT
  go_enter Tryd.func14, Tryd.ntmps14
  go_wp2_with fail
  refine wp_loop_rounds 1 ?_
  rw [rounds_succ]
  go_wp2_with fail
  refine (end_any ⟨#[]⟩ _ hT1.out).mono ?_
  rintro e w2 ⟨tv, rfl, htold, hb2⟩
  rw [if_neg (by decide)] at htold
  have hown2 := Lib.hid (own_below hown.out hbox hb2)
  have hbel2 := hbel.trans (hb2.mono hbel.size)
  rcases own_src htold with ⟨rfl, _⟩ | ⟨g, gcap, rfl, hg, hgl, hsrc⟩
  · clear htold hbel hbox hb2
    go_wp2_with (at_builtin; refine wpList_append_own_none rfl _ _ 25 rfl (w.heap.size + 1) 3 i0 1 Tryd.underlying25 hi _ _ _ rfl hown2.out rfl ?_)
    go_ret
    exact ⟨_, rfl, hown2.out, hbel2⟩
  · have hsrc := Lib.hid hsrc
    have hz := hb2.size
    simp only [World.size_alloc] at hz
    clear htold hbel hbox hb2
    go_wp2_with (at_builtin; refine wpList_append_own _ rfl _ _ 25 rfl (w.heap.size + 1) 3 i0 (.int .i64 0) 1 8 Tryd.underlying25 hi hz0 hz1 hz2 rfl (by decide) _ _ _ rfl hown2.out ⟨g, 0, none⟩ 0 gcap [] rfl (by simp) hsrc.out (by simp) (by simp [maxLen]) (by simp) (by omega) ?_; intro v5 w5 hown5 hgrow5 _)
    go_ret
    exact ⟨_, rfl, own_of_row hown5 rfl rfl, below_grown hbel2 hgrow5 hbel2.size hown2.out (by omega)⟩

/-- All, of whatever bytes (no more than a hundred thousand). -/
theorem all_any (v : Value) (bs : List UInt8) (w : World) (hT : Lib.Utf8Tabs 0 1 w) (hlen : bs.length ≤ 100000) (hb : RBytes w v bs) :
    Calls Tryd.prog 14 #[v] w fun e w' => ∃ v, e = .returned v ∧ Own (w.heap.size + 1) v (Dec.allL bs) w' ∧ Below w.heap.size w w' := by
  rcases hb with ⟨rfl, rfl⟩ | ⟨p, cap, rfl, hp⟩
  · exact all_none none 0 w hT
  · cases bs with
    | nil => exact all_none (some p) cap w hT
    | cons c bs =>
      obtain ⟨b, off, rfl, h1, h2⟩ := hp (by simp)
      exact all_some b off cap (c :: bs) w hT hlen h1 h2

end Go.Proofs.YtcchcgllgodkhaaDoor
