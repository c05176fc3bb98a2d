/- Layer 5: Back. -/
import Derived.Test.YtgahfbcdnbhikaaDoorPaA4
import Derived.Test.YtgahfbcdnbhikaaDoorDeA4
namespace Go.Proofs.YtgahfbcdnbhikaaDoor
open Go.RowKit Go.Lib

def optII : Option (Int × Int) → Value
  | some (a, b) => .tuple #[.int .i64 a, .int .i64 b, .bool true]
  | none => .tuple #[.int .i64 0, .int .i64 0, .bool false]

def BackRes (o : Option (Int × Int)) (w : World) (e : Ending) (w' : World) : Prop := e = .returned (optII o) ∧ Below w.heap.size w w'

theorem cells_below {w w' : World} {g B : Nat} {l : List Int} (h : ∀ i (h : i < l.length), w.cell? ⟨g, i, none⟩ = some (.int .i64 l[i])) (hb : Below B w w') (hg : g < B) :
    ∀ i (h : i < l.length), w'.cell? ⟨g, i, none⟩ = some (.int .i64 l[i]) := fun i hi => by rw [hb.cell hg]; exact h i hi

set_option maxHeartbeats 3200000 in
theorem back_any (r : Int) (hr : -9223372036854775808 ≤ r ∧ r ≤ 9223372036854775807) (w : World) :
    Calls Tryd.prog 10 #[.int .i64 r] w (BackRes (Par.backI r) w) := by
  have hfull := Lib.hid (full_any r hr)
  have hwb := Par.walk_back r
  have hlen := Dcp.full_len r
  obtain ⟨l, hl⟩ : ∃ l, Dcp.fullI r = l := ⟨_, rfl⟩
  rw [hl] at hfull hwb hlen
  clear hl hr
  obtain ⟨a0, t, rfl⟩ : ∃ a0 t, l = a0 :: t := by
    cases l with
    | nil => simp at hlen
    | cons a0 t => exact ⟨a0, t, rfl⟩
  simp only [List.headD_cons, List.tail_cons] at hwb
  obtain ⟨o, ho⟩ : ∃ o, Par.backI r = o := ⟨_, rfl⟩
  rw [ho] at hwb ⊢
  clear ho
  replace hwb := Lib.hid hwb
  have ht3 : t.length ≤ 3 := by simpa using hlen.2
  clear hlen
  go_enter Tryd.func10, Tryd.ntmps10
  go_wp2_with fail
  refine (hfull.out _).mono ?_
  rintro e w1 ⟨v, rfl, hv, hb1⟩
  obtain ⟨g, cap, rfl, hB, hg, hcell⟩ := ownI_open hv (by simp)
  have hcap : t.length + 1 ≤ cap := by
    rcases hv.2 with ⟨h, _⟩ | ⟨_, _, _, h, _, _, h2, _⟩
    · cases h
    · cases h; simpa using h2
  have c0 := hcell 0 (by simp)
  simp only [List.length_cons]
  replace hcell := Lib.hid hcell
  replace hb1 := Lib.hid hb1
  replace hg := Lib.hid hg
  clear hv hfull
  by_cases hcap1 : cap = 1
  · obtain rfl : t = [] := List.eq_nil_of_length_eq_zero (by omega)
    subst hcap1
    simp only [List.length_nil, Nat.zero_add]
    have hn : o = none := hwb.out.symm
    subst hn
    clear hcap ht3
    go_wp2_with fail
    go_loopg [19] 0 (fun n i wr => i = .int .i64 0 ∧ n = 0 ∧ wr = w1)
    case atStart => exact ⟨rfl, rfl, rfl⟩
    case round =>
      obtain ⟨rfl, rfl, rfl⟩ := hrel
      go_wp2_with fail
      exact bodyPost_ret (v := .tuple #[.int .i64 0, .int .i64 0, .bool false]) (by simp [results, Tryd.results10, go_sem]) rfl ⟨rfl, hb1.out⟩
  · have hcap2 : 1 < cap := by omega
    have hcapt : t.length + 1 - 1 = t.length := by omega
    go_wp2_with fail
    go_loopg [6, 19] t.length (fun n x i wr => ∃ (k : Nat) (a : Int), k ≤ t.length ∧ x = .int .i64 a ∧ i = .int .i64 k ∧ n = t.length - k ∧ Hid (Par.walkB r a (t.drop k) = o) ∧ Below w1.heap.size w1 wr)
    case atStart => exact ⟨0, a0, Nat.zero_le _, rfl, rfl, rfl, hwb, Below.refl _ _⟩
    case round =>
      obtain ⟨k, a, hk, rfl, rfl, rfl, hwk, hbr⟩ := hrel
      have hB1 := Lib.hid (hb1.out.trans (hbr.mono hb1.out.size))
      by_cases hkt : k < t.length
      · have hkt' : (k : Int) < (t.length : Int) := by omega
        have hc : wr.cell? ⟨g, 1 + k, none⟩ = some (.int .i64 t[k]) := by
          rw [hbr.cell hg.out, hcell.out (1 + k) (by simp; omega)]
          simp only [Nat.add_comm 1 k, List.getElem_cons_succ]
        have hdr : t.drop k = t[k] :: t.drop (k + 1) := List.drop_eq_getElem_cons hkt
        have hw := hwk.out
        rw [hdr] at hw
        obtain ⟨b, hb⟩ : ∃ b, t[k] = b := ⟨_, rfl⟩
        rw [hb] at hc hw
        have hj := join_any a b
        unfold Par.walkB at hw
        clear hwk hdr hb
        cases hjo : Par.joinI a b with
        | none =>
          rw [hjo] at hj hw
          dsimp only at hw
          subst hw
          replace hj := Lib.hid hj
          replace hjo := Lib.hid hjo
          replace hbr := Lib.hid hbr
          go_wp2_with fail
          refine (hj.out _).mono ?_
          rintro e w2 ⟨rfl, hb2⟩
          have hB2 := Lib.hid (hB1.out.trans (hb2.mono hB1.out.size))
          clear hb2
          unfold optI
          dsimp only
          go_wp2_with fail
          exact bodyPost_ret (v := .tuple #[.int .i64 0, .int .i64 0, .bool false]) (by simp [results, Tryd.results10, go_sem]) rfl ⟨rfl, hB2.out⟩
        | some x =>
          rw [hjo] at hj hw
          dsimp only at hw
          replace hj := Lib.hid hj
          replace hjo := Lib.hid hjo
          by_cases hxr : x = r
          · rw [if_pos hxr] at hw
            subst hw
            subst hxr
            replace hbr := Lib.hid hbr
            go_wp2_with fail
            refine (hj.out _).mono ?_
            rintro e w2 ⟨rfl, hb2⟩
            have hB2 := Lib.hid (hB1.out.trans (hb2.mono hB1.out.size))
            clear hb2
            unfold optI
            dsimp only
            go_wp2_with fail
            exact bodyPost_ret (v := .tuple #[.int .i64 a, .int .i64 b, .bool true]) (by simp [results, Tryd.results10, go_sem]) rfl ⟨rfl, hB2.out⟩
          · rw [if_neg hxr] at hw
            have hne : (x == r) = false := beq_eq_false_iff_ne.2 hxr
            replace hw := Lib.hid hw
            replace hbr := Lib.hid hbr
            clear hxr
            go_wp2_with fail
            refine (hj.out _).mono ?_
            rintro e w2 ⟨rfl, hb2⟩
            have hB2 := Lib.hid (hbr.out.trans (hb2.mono hbr.out.size))
            clear hb2
            unfold optI
            dsimp only
            go_wp2_with fail
            go_roundg (t.length - (k + 1))
            case measure => omega
            case rel => exact ⟨k + 1, x, by omega, rfl, by go_num, rfl, hw, hB2.out⟩
      · obtain rfl : k = t.length := by omega
        have hkt' : decide ((t.length : Int) < (t.length : Int)) = false := by simp
        have hn : o = none := by
          have hw := hwk.out
          rw [List.drop_length] at hw
          exact hw.symm
        subst hn
        clear hwk
        go_wp2_with fail
        exact bodyPost_ret (v := .tuple #[.int .i64 0, .int .i64 0, .bool false]) (by simp [results, Tryd.results10, go_sem]) rfl ⟨rfl, hB1.out⟩

end Go.Proofs.YtgahfbcdnbhikaaDoor
