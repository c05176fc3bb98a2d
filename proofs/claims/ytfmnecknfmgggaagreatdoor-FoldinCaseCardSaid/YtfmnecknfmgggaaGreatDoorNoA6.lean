/- Layer 9: feed. -/
import Derived.Test.YtfmnecknfmgggaaGreatDoorNoA5
import Derived.Test.YtfmnecknfmgggaaGreatDoorDeP
namespace Go.Proofs.YtfmnecknfmgggaaGreatDoor
set_option linter.unusedSimpArgs false
set_option linter.unusedVariables false
open Go.RowKit Go.Lib

theorem ri_same {w w1 : World} {v : Value} {l : List Int} (h : RI w v l) (hz : w.heap.size ≤ w1.heap.size) (hs : ∀ j, v.ownBlock = some j → w1.heap[j]? = w.heap[j]?) : RI w1 v l := by
  rcases h with h | ⟨a, c, rfl, hcap, h⟩
  · exact .inl h
  · refine .inr ⟨a, c, rfl, hcap, fun hl => ?_⟩
    obtain ⟨b, o, rfl, h1, h2⟩ := h hl
    refine ⟨b, o, rfl, Nat.lt_of_lt_of_le h1 hz, fun i hi => ?_⟩
    have h3 := h2 i hi
    unfold World.cell? at h3 ⊢
    rw [hs b rfl]
    exact h3

namespace At9
variable {B b : Nat} {g : Option Nat} {w0 w w1 : World} {l t c : List Int} {vl vt v1 : Value}

/-- a row that was made since is named -/
theorem named (h : At9 B b none w0 l t vl vt w) (hf : OwnI w.heap.size v1 c w1) (hb : Below w.heap.size w w1) : At9 B b v1.ownBlock w1 l t vl vt w1 := by
  have k := (h.go hb).here
  refine ⟨k.box, k.kept, k.told, k.base, k.apart, fun j e => ?_, Below.refl _ _, fun _ _ => rfl⟩
  have hj := World.ownsRow.lt hf j e
  refine ⟨fun e' => ?_, fun e' => ?_, fun e' => ?_, hj.2⟩
  · have := (World.ownsRow.lt h.kept j e').2; omega
  · have := (World.ownsRow.lt h.told j e').2; omega
  · have := blk_lt h.box; omega

theorem free (h : At9 B b g w0 l t vl vt w) : At9 B b none w0 l t vl vt w :=
  ⟨h.box, h.kept, h.told, h.base, h.apart, (fun _ e => by cases e), h.below, (fun _ e => by cases e)⟩
end At9

theorem put_head9 {l : List Int} {d : Int} (hd : Prp.mrkB d = false) : Nor.putI l d = Nor.headI l d := by
  unfold Nor.putI
  rw [hd]
  rfl

theorem run_snoc9 (l t F : List Int) (k : Nat) (hk : k < F.length) : (Nor.putI (Nor.runI l (F.take k)).1 F[k]).1 = (Nor.runI l (F.take (k + 1))).1 ∧ t ++ (Nor.runI l (F.take k)).2 ++ (Nor.putI (Nor.runI l (F.take k)).1 F[k]).2 = t ++ (Nor.runI l (F.take (k + 1))).2 := by
  rw [List.take_succ_eq_append_getElem hk, run_snoc, List.append_assoc]
  exact ⟨rfl, rfl⟩

/-- some of the values put -/
def Ran (B b : Nat) (g : Option Nat) (l t F : List Int) (k : Nat) (w1 wr : World) : Prop := ∃ va vb, At9 B b g w1 (Nor.runI l (F.take k)).1 (t ++ (Nor.runI l (F.take k)).2) va vb wr

set_option maxHeartbeats 6400000 in
set_option maxRecDepth 100000 in
theorem pfeed_any (B b : Nat) (l t : List Int) (r : Int) (vl vt : Value) (w : World) (hl : Nor.Kept l) (ht : t.length ≤ 9000000) (hp : At9 B b none w l t vl vt w) : Calls Tryz.prog 34 #[.pointer (some ⟨b, 0, none⟩), .int .i64 r] w (Puts B b none (Nor.runI l (Dcp.fullI r)).1 (t ++ (Nor.runI l (Dcp.fullI r)).2) w) := by
  have hfl := (Dcp.full_len r).2
  have hfu := full_free r w
  obtain ⟨F, hF⟩ : ∃ F, Dcp.fullI r = F := ⟨_, rfl⟩
  rw [hF] at hfu hfl ⊢
  replace hfu := Lib.hid hfu
  replace hp := Lib.hid hp
  replace hl := Lib.hid hl
  clear hF
  go_enter Tryz.func34, Tryz.ntmps34
  go_wp2_with fail
  refine hfu.out.mono ?_
  rintro e w1 ⟨vF, rfl, hoF, hb1⟩
  have q1 := hp.out.named hoF hb1
  have hF1 := ri_of_own hoF
  obtain ⟨pF, cF, rfl⟩ := ri_form hF1
  have hbw := Lib.hid (hp.out.go hb1)
  replace q1 := Lib.hid q1
  replace hF1 := Lib.hid hF1
  clear hoF hb1
  go_wp2_with fail
  go_loopg [9] F.length (fun n vk wr => ∃ k : Nat, k ≤ F.length ∧ vk = .int .i64 k ∧ n = F.length - k ∧ Ran B b (Value.slice pF F.length cF).ownBlock l t F k w1 wr)
  case atStart => exact ⟨0, Nat.zero_le _, rfl, rfl, vl, vt, by simpa [Nor.runI] using q1.out⟩
  case round =>
    obtain ⟨k, hk, rfl, rfl, va, vb, q⟩ := hrel
    by_cases hlt : k < F.length
    · have hlt' : (k : Int) < (F.length : Int) := by omega
      obtain ⟨x, hx⟩ : ∃ x, F[k] = x := ⟨_, rfl⟩
      obtain ⟨bF, oF, rfl, _, hcell⟩ := ri_at (ri_same hF1.out q.below.size q.same) (by omega)
      have hc := hcell k hlt
      rw [hx] at hc
      have hsn := run_snoc9 l t F k hlt
      rw [hx] at hsn
      have hkr := Nor.kept_run hl.out (F.take k)
      have hrt := Nor.run_told hl.out (F.take k)
      rw [List.length_take] at hrt
      obtain ⟨L, hL⟩ : ∃ L, (Nor.runI l (F.take k)).1 = L := ⟨_, rfl⟩
      obtain ⟨O, hO⟩ : ∃ O, (Nor.runI l (F.take k)).2 = O := ⟨_, rfl⟩
      rw [hL] at q hsn hkr
      rw [hO] at q hsn hrt
      obtain ⟨T, hT⟩ : ∃ T, t ++ O = T := ⟨_, rfl⟩
      have hTl : T.length ≤ 10000000 := by rw [← hT, List.length_append]; omega
      rw [hT] at q hsn
      have hll := Nor.kept_len hkr
      replace hsn := Lib.hid hsn
      replace hkr := Lib.hid hkr
      replace q := Lib.hid q
      clear hcell hL hO hT hx hrt
      cases hmb : Prp.mrkB x with
      | true =>
        have hmx := Lib.hid (fun W => markOf7 x true hmb W)
        replace hmb := Lib.hid hmb
        go_wp2_with fail
        refine (hmx.out _).mono ?_
        rintro e w4 ⟨rfl, hb4⟩
        have q4 := Lib.hid (q.out.go hb4)
        have hput := Lib.hid (putMark_any B b _ L T x _ _ _ hkr.out hmb.out hTl q4.out.here)
        clear hb4 hc
        go_wp2_with fail
        refine hput.out.mono ?_
        rintro e w5 ⟨rfl, vc, vd, q5⟩
        have q6 := Lib.hid (q4.out.since q5)
        clear q5
        go_wp2_with fail
        go_roundg (F.length - (k + 1))
        case measure => omega
        case rel => exact ⟨k + 1, by omega, by go_num, rfl, vc, vd, by have h6 := q6.out; rw [hsn.out.1, hsn.out.2] at h6; exact h6⟩
      | false =>
        have hmx := Lib.hid (fun W => markOf7 x false hmb W)
        have hph := fun (W : World) (h : At9 B b (Value.slice (some ⟨bF, oF, none⟩) F.length cF).ownBlock W L T va vb W) => putHead_any B b _ L T x va vb W (by omega) hTl h
        rw [← put_head9 (l := L) hmb] at hph
        replace hph := Lib.hid hph
        replace hmb := Lib.hid hmb
        go_wp2_with fail
        refine (hmx.out _).mono ?_
        rintro e w4 ⟨rfl, hb4⟩
        have q4 := Lib.hid (q.out.go hb4)
        have hput := Lib.hid (hph.out _ q4.out.here)
        clear hb4 hc
        go_wp2_with fail
        refine hput.out.mono ?_
        rintro e w5 ⟨rfl, vc, vd, q5⟩
        have q6 := Lib.hid (q4.out.since q5)
        clear q5
        go_wp2_with fail
        go_roundg (F.length - (k + 1))
        case measure => omega
        case rel => exact ⟨k + 1, by omega, by go_num, rfl, vc, vd, by have h6 := q6.out; rw [hsn.out.1, hsn.out.2] at h6; exact h6⟩
    · obtain rfl : k = F.length := by omega
      have hlt' : decide ((F.length : Int) < (F.length : Int)) = false := by simp
      have q9 := Lib.hid q
      clear q
      go_wp2_with fail
      go_end0
      have q8 := hbw.out.since q9.out.free
      rw [List.take_length] at q8
      exact ⟨rfl, _, _, q8⟩
end Go.Proofs.YtfmnecknfmgggaaGreatDoor
