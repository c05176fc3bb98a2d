/- Layer 13: the walk of FrameRows. -/
import Derived.Test.YtconccgfhdmafaaFrW0
import Derived.Test.YtconccgfhdmafaaDcT
import Derived.Test.YtconccgfhdmafaaSgS
import Derived.Test.YtconccgfhdmafaaNoB
import Derived.Test.YtconccgfhdmafaaBasP
import Derived.Deep.DeepCutAuto
import Derived.Deep.LoopGhost
import Derived.Deep.RegionHeld
import Derived.OrdersHeld
namespace Go.Proofs.Ytconccgfhdmafaa
set_option linter.unusedSimpArgs false
set_option linter.unusedVariables false
open Go.RowKit Go.Lib

namespace Frm
theorem put_few {c : List Int} (h : c.length ≤ 32) : (putF c).length ≤ 132 := by
  unfold putF
  split
  · simp
  · have h6 := Dec.textL_len c
    have h5 := Var.put_len_le (Dec.textL c).length (by omega)
    unfold frameOf
    rw [List.length_append]
    omega
theorem puts_few {cs : List (List Int)} (h : ∀ c ∈ cs, c.length ≤ 32) : (cs.flatMap putF).length ≤ 132 * cs.length := by
  induction cs with
  | nil => simp
  | cons c t ih =>
    have h1 := put_few (h c (List.mem_cons_self ..))
    have h2 := ih fun x hx => h x (List.mem_cons_of_mem _ hx)
    rw [List.flatMap_cons, List.length_append, List.length_cons]
    omega
end Frm

theorem flat_lenF {L : List (List Int)} (h : ∀ x ∈ L, 1 ≤ x.length) : L.length ≤ L.flatten.length := by
  induction L with
  | nil => simp
  | cons x t ih =>
    have h1 := h x (List.mem_cons_self ..)
    have h2 := ih fun y hy => h y (List.mem_cons_of_mem _ hy)
    simp only [List.length_cons, List.flatten_cons, List.length_append]
    omega

/-- the texts joined so far -/
def Joined (CS : List (List Int)) (i : Nat) (v : Value) : Prop := ∃ S : ByteArray, v = .string S ∧ S.data.toList = Dec.textL (CS.take i).flatten

theorem joined_next {CS : List (List Int)} {i : Nat} {x : List Int} {S X : ByteArray} (hi : i < CS.length) (hx : CS[i] = x) (hS : S.data.toList = Dec.textL (CS.take i).flatten) (hX : X.data.toList = Dec.textL x) : (S ++ X).data.toList = Dec.textL (CS.take (i + 1)).flatten := by
  rw [List.take_succ_eq_append_getElem hi, List.flatten_append, List.flatten_cons, List.flatten_nil, List.append_nil, hx, Frm.text_app, ← hS, ← hX]
  simp

set_option maxHeartbeats 6400000 in
set_option maxRecDepth 100000 in
theorem frameRows_walk (hP : PutC13) (hT : TakeC13) (hA : AllC13) (hR : RefC13) (hG : AllC12) (v : Value) (l : List Int) (w : World) (hv : RI w v l ∧ WfI l) :
    Calls Try.prog 5 #[v] w fun e w' => e = .returned (.bool true) ∧ Below w.heap.size w w' := by
  obtain ⟨i0, hi, hz0, hz1, hz2⟩ := info_parts info_byte
  obtain ⟨hri, _⟩ := hv
  obtain ⟨p, cap, rfl⟩ := ri_form hri
  have hawake := Lib.hid (awake13 hP hT hR)
  replace hri := Lib.hid hri
  by_cases hl : l.length ≤ 120
  · have hl' : decide (120 < l.length) = false := decide_eq_false (by omega)
    have hl2 : ¬ (120 : Int) < (l.length : Int) := by omega
    have hall := fun W h => hG (.slice p l.length cap) l W (by omega) h
    have htl := fun W h => Tx.text_any (.slice p l.length cap) l W (by omega) h
    obtain ⟨hj1, hj2⟩ := Sgm.all_join l
    obtain ⟨CS, hCS⟩ : ∃ CS, Sgm.allI l = CS := ⟨_, rfl⟩
    rw [hCS] at hall hj1 hj2
    have hn := flat_lenF fun x hx => (hj2 x hx).1
    rw [hj1] at hn
    have hn2 : CS.length ≤ 120 := by omega
    have hap := Frm.all_put (cs := CS) fun c hc => ⟨fun e => by have := (hj2 c hc).1; rw [e] at this; simp at this, by have := (hj2 c hc).2; omega⟩
    have hpf := Frm.puts_few fun c hc => (hj2 c hc).2
    obtain ⟨B, hB⟩ : ∃ B, CS.flatMap Frm.putF = B := ⟨_, rfl⟩
    rw [hB] at hap hpf
    have htake := fun V W h => hA V B W (by omega) h
    rw [hap] at htake
    unfold TookAll at htake
    dsimp only at htake
    have hml : (CS.map Dec.textL).length = CS.length := by simp
    obtain ⟨TS, hTS⟩ : ∃ TS, CS.map Dec.textL = TS := ⟨_, rfl⟩
    rw [hTS] at htake hml
    have hmi : ∀ (i : Nat) (h : i < CS.length) (h2 : i < TS.length), TS[i]'h2 = Dec.textL CS[i] := fun i h h2 => by subst hTS; simp
    have hput := fun V (c : List Int) W (hc : c.length ≤ 32) h => hP V c W (by omega) h
    unfold ToldB at hput
    unfold ToldR at hall
    replace hall := Lib.hid hall
    replace htl := Lib.hid htl
    replace hput := Lib.hid hput
    replace htake := Lib.hid htake
    replace hj1 := Lib.hid hj1
    replace hj2 := Lib.hid hj2
    replace hB := Lib.hid hB
    replace hml := Lib.hid hml
    replace hmi := Lib.hid hmi
    clear hap hCS hTS hn hP hT hR hA hG
    go_enter Try.func5, Try.ntmps5
    go_wp2_with fail
    refine (hawake.out _).mono ?_
    rintro e w1 ⟨rfl, q1⟩
    replace hri := Lib.hid (ri_below hri.out q1)
    have bq := Lib.hid q1
    clear q1
    go_wp2_with fail
    refine (hall.out _ hri.out).mono ?_
    rintro e w2 ⟨vc, rfl, rc, q2⟩
    obtain ⟨pc, cc, rfl⟩ := rr_form rc
    replace hri := Lib.hid (ri_below hri.out q2)
    replace rc := Lib.hid rc
    replace bq := Lib.hid (below_on bq.out q2)
    clear q2
    go_wp2_with fail
    go_loopg [5, 6] CS.length (fun g vo vi wr => ∃ i : Nat, i ≤ CS.length ∧ vi = .int .i64 i ∧ g = CS.length - i ∧ OwnB w2.heap.size vo ((CS.take i).flatMap Frm.putF) wr ∧ Below w2.heap.size w2 wr)
    case atStart => exact ⟨0, Nat.zero_le _, rfl, rfl, ownB_nil _ _, Below.refl _ _⟩
    case round =>
      obtain ⟨i, hi', rfl, rfl, hown, hbel⟩ := hrel
      by_cases hlt : i < CS.length
      · have hlt' : (i : Int) < (CS.length : Int) := by omega
        obtain ⟨b0, off, rfl, hb0, hcell⟩ := rr_at rc.out (by omega)
        obtain ⟨u, hc, ru⟩ := hcell i hlt
        have hx32 := (hj2.out CS[i] (List.getElem_mem hlt)).2
        have hfl := Frm.puts_few (cs := CS.take i) fun c hc => (hj2.out c (List.mem_of_mem_take hc)).2
        rw [List.length_take] at hfl
        have hpx := Frm.put_few hx32
        have hsn : (CS.take (i + 1)).flatMap Frm.putF = (CS.take i).flatMap Frm.putF ++ Frm.putF CS[i] := by rw [List.take_succ_eq_append_getElem hlt, List.flatMap_append, List.flatMap_cons, List.flatMap_nil, List.append_nil]
        obtain ⟨x, hx⟩ : ∃ x, CS[i] = x := ⟨_, rfl⟩
        rw [hx] at ru hx32 hpx hsn
        obtain ⟨O, hO⟩ : ∃ O, (CS.take i).flatMap Frm.putF = O := ⟨_, rfl⟩
        rw [hO] at hown hfl hsn
        obtain ⟨F, hF⟩ : ∃ F, Frm.putF x = F := ⟨_, rfl⟩
        have hpc := hput.out u x wr hx32 (ri_below ru hbel)
        rw [hF] at hpc hpx hsn
        replace hc := (hbel.cell (p := ⟨b0, off + i, none⟩) hb0).trans hc
        obtain ⟨pu, cu, rfl⟩ := ri_form ru
        replace hpc := Lib.hid hpc
        replace hown := Lib.hid hown
        replace hbel := Lib.hid hbel
        replace hsn := Lib.hid hsn
        clear hcell ru hx hO hF
        go_wp2_with fail
        refine hpc.out.mono ?_
        rintro e w3 ⟨vf, rfl, f, q3⟩
        obtain ⟨pf, cf, rfl⟩ := bytes_form f
        have o3 := Lib.hid (ownB_below hown.out q3)
        have b3 := Lib.hid (below_on hbel.out q3)
        replace f := Lib.hid f
        clear q3 hc
        go_wp2_with (at_builtin; refine wpList_append_src rfl _ _ 23 rfl w2.heap.size 5 i0 (.int .u8 0) 1 Try.underlying23 hi hz0 hz1 hz2 rfl _ _ _ rfl o3.out _ _ rfl (bytes_src f.out) (bytes_oneCell _) (by simp only [List.length_append, List.length_take, List.length_drop, List.length_cons, List.length_nil, List.length_singleton, Lib.byteCells_length]; unfold maxLen; omega) (by simp only [List.length_append, List.length_take, List.length_drop, List.length_cons, List.length_nil, List.length_singleton, Lib.byteCells_length]; omega) b3.out.size ?_; intro v5 w5 ho5 hg5; have o5 := Lib.hid (ownB_of_row (l := O ++ F) ho5 (by (try simp [Lib.byteCells]); try omega) (by simp [Lib.byteCells])); have b5 := Lib.hid (below_row b3.out hg5 b3.out.size o3.out (Nat.le_refl _)); clear ho5 hg5)
        go_roundg (CS.length - (i + 1))
        case measure => omega
        case rel => exact ⟨i + 1, by omega, by go_num, rfl, by rw [hsn.out]; exact o5.out, b5.out⟩
      · obtain rfl : i = CS.length := by omega
        have hlt' : decide ((CS.length : Int) < (CS.length : Int)) = false := by simp
        rw [List.take_length, hB.out] at hown
        obtain ⟨pb, cb, rfl⟩ := bytes_form (bytes_of_own hown)
        have hrb := Lib.hid (bytes_of_own hown)
        replace hri := Lib.hid (ri_below hri.out hbel)
        replace rc := Lib.hid (rr_below rc.out hbel)
        replace bq := Lib.hid (below_on bq.out hbel)
        clear hown hbel
        go_wp2_with fail
        refine (htake.out _ _ hrb.out).mono ?_
        rintro e w3 ⟨vt, rfl, rt, q3⟩
        obtain ⟨pt, ct, rfl⟩ := sr_form rt
        replace rt := Lib.hid rt
        replace hri := Lib.hid (ri_below hri.out q3)
        replace rc := Lib.hid (rr_below rc.out q3)
        replace bq := Lib.hid (below_on bq.out q3)
        have f1 : ((B.length : Int) != (B.length : Int)) = false := by simp
        have f2 : ((TS.length : Int) != (CS.length : Int)) = false := by rw [hml.out]; simp
        have f3 : ((TS.length : Int) == (CS.length : Int)) = true := by rw [hml.out]; simp
        clear q3 hrb
        go_wp2_with fail
        go_loopg [10, 11] CS.length (fun g vs vi wr => ∃ i : Nat, i ≤ CS.length ∧ vi = .int .i64 i ∧ g = CS.length - i ∧ Joined CS i vs ∧ Below w3.heap.size w3 wr)
        case atStart => exact ⟨0, Nat.zero_le _, rfl, rfl, ⟨⟨#[]⟩, rfl, rfl⟩, Below.refl _ _⟩
        case round =>
          obtain ⟨i, hi', rfl, rfl, ⟨S, rfl, hS⟩, hbel⟩ := hrel
          have hSs : S.size ≤ 480 := by
            have h1 := Dec.textL_len (CS.take i).flatten
            rw [← hS] at h1
            have h2 : S.size = S.data.toList.length := rfl
            have h3 : CS.flatten = (CS.take i).flatten ++ (CS.drop i).flatten := by rw [← List.flatten_append, List.take_append_drop]
            have h4 := congrArg List.length h3
            rw [hj1.out, List.length_append] at h4
            omega
          by_cases hlt2 : i < CS.length
          · have hltT : i < TS.length := by have := hml.out; omega
            have hltT2 : (i : Int) < (TS.length : Int) := by omega
            have hltT3 : (i : Int) < (CS.length : Int) := by omega
            obtain ⟨b1, o1, rfl, hb1, hc1⟩ := sr_at rt.out (by omega)
            obtain ⟨b2, o2, rfl, hb2, hc2⟩ := rr_at rc.out (by omega)
            obtain ⟨u, k2, ru⟩ := hc2 i hlt2
            have k1 := hc1 i hltT
            rw [hmi.out i hlt2 hltT] at k1
            have hx32 := hj2.out CS[i] (List.getElem_mem hlt2)
            obtain ⟨x, hx⟩ : ∃ x, CS[i] = x := ⟨_, rfl⟩
            rw [hx] at k1 ru hx32
            have htx := fun W h => Tx.text_any u x W (by omega) h
            have hxl := Dec.textL_len x
            have hxp := Frm.text_pos (c := x) (fun e => by rw [e] at hx32; simp at hx32)
            have hXd : (⟨(Dec.textL x).toArray⟩ : ByteArray).data.toList = Dec.textL x := rfl
            obtain ⟨X, hX⟩ : ∃ X : ByteArray, (⟨(Dec.textL x).toArray⟩ : ByteArray) = X := ⟨_, rfl⟩
            unfold strV at k1
            rw [hX] at k1 htx hXd
            have hXs : X.size = (Dec.textL x).length := by rw [← hXd]; rfl
            have hXe : X.toList.isEmpty = false := by
              rw [Lib.toList_data, hXd]
              cases h : Dec.textL x with
              | nil => rw [h] at hxp; simp at hxp
              | cons a t => rfl
            have hX1 : 1 ≤ X.size := by omega
            have hX2 : X.size ≤ 128 := by omega
            have hnx := Lib.hid (joined_next hlt2 hx hS hXd)
            have ru2 := Lib.hid (ri_below ru hbel)
            replace k1 := (hbel.cell (p := ⟨b1, o1 + i, none⟩) hb1).trans k1
            replace k2 := (hbel.cell (p := ⟨b2, o2 + i, none⟩) hb2).trans k2
            obtain ⟨pu, cu, rfl⟩ := ri_form ru
            have H2 := Lib.hid (And.intro k1 k2)
            have bw := Lib.hid hbel
            replace htx := Lib.hid htx
            clear hc1 hc2 ru hx hxl hxp hXs hXd hX hS k1 k2 hbel
            go_upto_region 17 with (fail)
            refine wp_region_held_drew (S := fun w' => w'.cell? ⟨b1, o1 + i, none⟩ = some (.string X) ∧ w'.cell? ⟨b2, o2 + i, none⟩ = some (.slice pu x.length cu)) (by kernel_rfl) (H2.out) (fun hS => ?_)
            refine' wpAnyH_take (i := 0) (oi := ⟨_, _, _, _, _, _⟩) (v := _) rfl (by kernel_rfl) (by kernel_rfl) (by kernel_rfl) (fun _ _ _ h => h) (Or.inl ⟨by rfl, ?hy0⟩) hS ?rest0
            case hy0 => (intro wz hSw; (try dsimp only at hSw); go_simp; try with_reducible rfl)
            try simp only [Act.put, List.setIfInBounds_toArray, List.set_cons_zero, List.set_cons_succ]
            refine' wpAnyH_take (i := 1) (oi := ⟨_, _, _, _, _, _⟩) (v := _) rfl (by kernel_rfl) (by kernel_rfl) (by kernel_rfl) (fun _ _ _ h => h) (Or.inl ⟨by rfl, ?hy1⟩) hS ?rest1
            case hy1 => (intro wz hSw; (try dsimp only at hSw); go_simp; try with_reducible rfl)
            try simp only [Act.put, List.setIfInBounds_toArray, List.set_cons_zero, List.set_cons_succ]
            refine' wpAnyH_take (i := 2) (oi := ⟨_, _, _, _, _, _⟩) (v := _) rfl (by kernel_rfl) (by kernel_rfl) (by kernel_rfl) (fun _ _ _ h => h) (Or.inl ⟨by rfl, ?hy2⟩) hS ?rest2
            case hy2 => (intro wz hSw; (try dsimp only at hSw); go_simp; try with_reducible rfl)
            try simp only [Act.put, List.setIfInBounds_toArray, List.set_cons_zero, List.set_cons_succ]
            refine' wpAnyH_take (i := 3) (oi := ⟨_, _, _, _, _, _⟩) (v := _) rfl (by kernel_rfl) (by kernel_rfl) (by kernel_rfl) (fun _ _ _ h => h) (Or.inl ⟨by rfl, ?hy3⟩) hS ?rest3
            case hy3 => (intro wz hSw; (try dsimp only at hSw); go_simp; try with_reducible rfl)
            try simp only [Act.put, List.setIfInBounds_toArray, List.set_cons_zero, List.set_cons_succ]
            refine' wpAnyH_take (i := 4) (oi := ⟨_, _, _, _, _, _⟩) (v := _) rfl (by kernel_rfl) (by kernel_rfl) (by kernel_rfl) (fun _ _ _ h => h) (Or.inl ⟨by rfl, ?hy4⟩) hS ?rest4
            case hy4 => (intro wz hSw; (try dsimp only at hSw); go_simp; try with_reducible rfl)
            try simp only [Act.put, List.setIfInBounds_toArray, List.set_cons_zero, List.set_cons_succ]
            refine' wpAnyH_take (i := 5) (oi := ⟨_, _, _, _, _, _⟩) (v := _) rfl (by kernel_rfl) (by kernel_rfl) (by kernel_rfl) (fun _ _ _ h => h) (Or.inl ⟨by rfl, ?hy5⟩) hS ?rest5
            case hy5 => (intro wz hSw; (try dsimp only at hSw); go_simp; try with_reducible rfl)
            try simp only [Act.put, List.setIfInBounds_toArray, List.set_cons_zero, List.set_cons_succ]
            refine' wpAnyH_take (i := 6) (oi := ⟨_, _, _, _, _, _⟩) (v := _) rfl (by kernel_rfl) (by kernel_rfl) (by kernel_rfl) (fun _ _ _ h => h) (Or.inl ⟨by rfl, ?hy6⟩) hS ?rest6
            case hy6 => (intro wz hSw; (try dsimp only at hSw); go_simp; try with_reducible rfl)
            try simp only [Act.put, List.setIfInBounds_toArray, List.set_cons_zero, List.set_cons_succ]
            refine' wpAnyH_take (i := 7) (oi := ⟨_, _, _, _, _, _⟩) (v := _) rfl (by kernel_rfl) (by kernel_rfl) (by kernel_rfl) (fun _ _ _ h => h) (Or.inl ⟨by rfl, ?hy7⟩) hS ?rest7
            case hy7 => (intro wz hSw; (try dsimp only at hSw); go_simp; try with_reducible rfl)
            try simp only [Act.put, List.setIfInBounds_toArray, List.set_cons_zero, List.set_cons_succ]
            refine wpAnyH_ready (rs := [8]) (by kernel_rfl) (by simp) (AllReadyH.cons rfl (fun K hK => ?_) AllReadyH.nil)
            go_simp
            go_at_call 18
            refine (htx.out wr.drew ru2.out).mono ?_
            rintro e w4 ⟨rfl, q4⟩
            have bw4 := Lib.hid (below_on bw.out ((Below.refl wr.heap.size wr).drew.trans q4))
            have k3 := (held_at q4 hS).1
            go_wp2_with fail
            refine hK.out _ _ (held_at q4 hS) (fun hSn => ?_)
            clear hS
            have hS := hSn
            clear hSn
            clear hK K
            try simp only [Act.put, List.setIfInBounds_toArray, List.set_cons_zero, List.set_cons_succ]
            refine' wpAnyH_take (i := 9) (oi := ⟨_, _, _, _, _, _⟩) (v := _) rfl (by kernel_rfl) (by kernel_rfl) (by kernel_rfl) (fun _ _ _ h => h) (Or.inl ⟨by rfl, ?hy9⟩) hS ?rest9
            case hy9 => (intro wz hSw; (try dsimp only at hSw); go_simp; try with_reducible rfl)
            try simp only [Act.put, List.setIfInBounds_toArray, List.set_cons_zero, List.set_cons_succ]
            refine' wpAnyH_take (i := 10) (oi := ⟨_, _, _, _, _, _⟩) (v := _) rfl (by kernel_rfl) (by kernel_rfl) (by kernel_rfl) (fun _ _ _ h => h) (Or.inl ⟨by rfl, ?hy10⟩) hS ?rest10
            case hy10 => (intro wz hSw; (try dsimp only at hSw); go_simp; try with_reducible rfl)
            try simp only [Act.put, List.setIfInBounds_toArray, List.set_cons_zero, List.set_cons_succ]
            refine' wpAnyH_take (i := 11) (oi := ⟨_, _, _, _, _, _⟩) (v := _) rfl (by kernel_rfl) (by kernel_rfl) (by kernel_rfl) (fun _ _ _ h => h) (Or.inl ⟨by rfl, ?hy11⟩) hS ?rest11
            case hy11 => (intro wz hSw; (try dsimp only at hSw); go_simp; try with_reducible rfl)
            try simp only [Act.put, List.setIfInBounds_toArray, List.set_cons_zero, List.set_cons_succ]
            refine' wpAnyH_take (i := 12) (oi := ⟨_, _, _, _, _, _⟩) (v := _) rfl (by kernel_rfl) (by kernel_rfl) (by kernel_rfl) (fun _ _ _ h => h) (Or.inl ⟨by rfl, ?hy12⟩) hS ?rest12
            case hy12 => (intro wz hSw; (try dsimp only at hSw); go_simp; try with_reducible rfl)
            try simp only [Act.put, List.setIfInBounds_toArray, List.set_cons_zero, List.set_cons_succ]
            refine' wpAnyH_take (i := 13) (oi := ⟨_, _, _, _, _, _⟩) (v := _) rfl (by kernel_rfl) (by kernel_rfl) (by kernel_rfl) (fun _ _ _ h => h) (Or.inl ⟨by rfl, ?hy13⟩) hS ?rest13
            case hy13 => (intro wz hSw; (try dsimp only at hSw); go_simp; try with_reducible rfl)
            try simp only [Act.put, List.setIfInBounds_toArray, List.set_cons_zero, List.set_cons_succ]
            refine' wpAnyH_take (i := 14) (oi := ⟨_, _, _, _, _, _⟩) (v := _) rfl (by kernel_rfl) (by kernel_rfl) (by kernel_rfl) (fun _ _ _ h => h) (Or.inl ⟨by rfl, ?hy14⟩) hS ?rest14
            case hy14 => (intro wz hSw; (try dsimp only at hSw); go_simp; try with_reducible rfl)
            try simp only [Act.put, List.setIfInBounds_toArray, List.set_cons_zero, List.set_cons_succ]
            refine' wpAnyH_take (i := 15) (oi := ⟨_, _, _, _, _, _⟩) (v := _) rfl (by kernel_rfl) (by kernel_rfl) (by kernel_rfl) (fun _ _ _ h => h) (Or.inl ⟨by rfl, ?hy15⟩) hS ?rest15
            case hy15 => (intro wz hSw; (try dsimp only at hSw); go_simp; try with_reducible rfl)
            try simp only [Act.put, List.setIfInBounds_toArray, List.set_cons_zero, List.set_cons_succ]
            refine' wpAnyH_take (i := 16) (oi := ⟨_, _, _, _, _, _⟩) (v := _) rfl (by kernel_rfl) (by kernel_rfl) (by kernel_rfl) (fun _ _ _ h => h) (Or.inl ⟨by rfl, ?hy16⟩) hS ?rest16
            case hy16 => (intro wz hSw; (try dsimp only at hSw); go_simp; try with_reducible rfl)
            try simp only [Act.put, List.setIfInBounds_toArray, List.set_cons_zero, List.set_cons_succ]
            refine wpAnyH_done (by kernel_rfl) ?_ _
            clear hS H2 ru2
            go_simp
            go_wp2_with fail
            go_roundg (CS.length - (i + 1))
            case measure => omega
            case rel => exact ⟨i + 1, by omega, by go_num, rfl, ⟨_, rfl, hnx.out⟩, bw4.out⟩
          · obtain rfl : i = CS.length := by omega
            have hltT : decide (CS.length < TS.length) = false := decide_eq_false (by have := hml.out; omega)
            have hltT2 : ¬ (CS.length : Int) < (TS.length : Int) := by have := hml.out; omega
            rw [List.take_length, hj1.out] at hS
            obtain ⟨X, hX⟩ : ∃ X : ByteArray, (⟨(Dec.textL l).toArray⟩ : ByteArray) = X := ⟨_, rfl⟩
            obtain rfl : S = X := by
              rw [← hX, ← hS]
            have htx := htl.out wr (ri_below hri.out hbel)
            rw [hX] at htx
            replace htx := Lib.hid htx
            replace bq := Lib.hid (below_on bq.out hbel)
            clear hS hX hbel hSs
            go_wp2_with fail
            refine htx.out.mono ?_
            rintro e w4 ⟨rfl, q4⟩
            replace bq := Lib.hid (below_on bq.out q4)
            go_wp2_with fail
            go_ret
            exact ⟨rfl, bq.out⟩
  · have hl' : decide (120 < l.length) = true := decide_eq_true (by omega)
    have hl2 : (120 : Int) < (l.length : Int) := by omega
    clear hP hT hR hA hG
    go_enter Try.func5, Try.ntmps5
    go_wp2_with fail
    refine (hawake.out _).mono ?_
    rintro e w1 ⟨rfl, q1⟩
    go_wp2_with fail
    go_ret
    exact ⟨rfl, q1⟩

end Go.Proofs.Ytconccgfhdmafaa
