/- Layer 14: the document's Values, Clusters, F, Texts. -/
import Derived.Test.YtnlnkjaapdefiaaGreatDoorBasQ
import Derived.Test.YtnlnkjaapdefiaaGreatDoorDcRP
import Derived.Test.YtnlnkjaapdefiaaGreatDoorDeRP
import Derived.Test.YtnlnkjaapdefiaaGreatDoorPrRQ
import Derived.Test.YtnlnkjaapdefiaaGreatDoorSgRQ
import Derived.Test.YtnlnkjaapdefiaaGreatDoorFrRP
namespace Go.Proofs.YtnlnkjaapdefiaaGreatDoor
set_option linter.unusedSimpArgs false
set_option linter.unusedVariables false
open Go.RowKit Go.Lib
set_option maxHeartbeats 1600000 in
set_option maxRecDepth 100000 in
theorem rvalues14_any (v : Value) (b : List UInt8) (w : World) (hs : Flw.Small b) (hl : b.length ≤ 1000) (hv : RBytes w v b) : Calls Tryz.prog 11 #[v] w (Told (Flw.valuesI b) w) := by
  have h1 := Tq.rall_any v b w hl hv
  obtain ⟨s0, s1, s2, s3, s4⟩ := hs
  have e0 : Flw.valuesI b = Nfk.nfkcI (Fol.leftI (Nfk.nfkcI (Dec.allL b))) := rfl
  rw [e0] at s4 ⊢
  rw [← Dec.allL_eq b] at h1
  obtain ⟨D, hD⟩ : ∃ D, Dec.allL b = D := ⟨_, rfl⟩
  rw [hD] at s1 s2 s3 s4 h1 ⊢
  have h2 := fun V W h => rnfkc_any V D W (by omega) h
  obtain ⟨E, hE⟩ : ∃ E, Nfk.nfkcI D = E := ⟨_, rfl⟩
  rw [hE] at s2 s3 s4 h2 ⊢
  have h3 := fun V W h => rleft_any V E W (by omega) h
  obtain ⟨G, hG⟩ : ∃ G, Fol.leftI E = G := ⟨_, rfl⟩
  rw [hG] at s3 s4 h3 ⊢
  have h4 := fun V W h => rnfkc_any V G W (by omega) h
  obtain ⟨H, hH⟩ : ∃ H, Nfk.nfkcI G = H := ⟨_, rfl⟩
  rw [hH] at s4 h4 ⊢
  unfold Tq.IntsRes at h1
  unfold Makes at h2 h3 h4
  obtain ⟨p, cap, rfl⟩ := bytes_form hv
  replace h1 := Lib.hid h1
  replace h2 := Lib.hid h2
  replace h3 := Lib.hid h3
  replace h4 := Lib.hid h4
  clear hv hD hE hG hH e0
  go_enter Tryz.func11, Tryz.ntmps11
  go_wp2_with fail
  refine h1.out.mono ?_
  rintro e w1 ⟨v1, rfl, o1, q1⟩
  have r1 : OwnI w.heap.size v1 D w1 := o1
  have k2 := Lib.hid (h2.out v1 w1 (ri_of_own r1))
  obtain ⟨p1, c1, rfl⟩ := ri_form (ri_of_own r1)
  replace q1 := Lib.hid q1
  clear o1 r1
  go_wp2_with fail
  refine k2.out.mono ?_
  rintro e w2 ⟨v2, rfl, r2, q2⟩
  have k3 := Lib.hid (h3.out v2 w2 (ri_of_own r2))
  obtain ⟨p2, c2, rfl⟩ := ri_form (ri_of_own r2)
  replace q2 := Lib.hid (below_on q1.out q2)
  clear r2
  go_wp2_with fail
  refine k3.out.mono ?_
  rintro e w3 ⟨v3, rfl, r3, q3⟩
  have k4 := Lib.hid (h4.out v3 w3 (ri_of_own r3))
  obtain ⟨p3, c3, rfl⟩ := ri_form (ri_of_own r3)
  replace q3 := Lib.hid (below_on q2.out q3)
  clear r3
  go_wp2_with fail
  refine k4.out.mono ?_
  rintro e w4 ⟨v4, rfl, r4, q4⟩
  obtain ⟨p4, c4, rfl⟩ := ri_form (ri_of_own r4)
  replace r4 := Lib.hid (ri_of_own r4)
  replace q4 := Lib.hid (below_on q3.out q4)
  go_wp2_with fail
  go_ret
  exact ⟨_, rfl, r4.out, q4.out⟩
set_option maxHeartbeats 1600000 in
set_option maxRecDepth 100000 in
theorem rclusters14_any (v : Value) (b : List UInt8) (w : World) (hs : Flw.Small b) (hl : b.length ≤ 1000) (hv : RBytes w v b) : Calls Tryz.prog 14 #[v] w (ToldR (Flw.clustersI b) w) := by
  have h1 := rvalues14_any v b w hs hl hv
  have s4 := hs.b4
  have e0 : Flw.clustersI b = Sgm.allI (Flw.valuesI b) := rfl
  rw [e0]
  obtain ⟨D, hD⟩ : ∃ D, Flw.valuesI b = D := ⟨_, rfl⟩
  rw [hD] at s4 h1 ⊢
  have h2 := fun V W h => rall12_any V D W (by omega) h
  obtain ⟨A, hA⟩ : ∃ A, Sgm.allI D = A := ⟨_, rfl⟩
  rw [hA] at h2 ⊢
  unfold Told at h1
  unfold ToldR at h2
  obtain ⟨p, cap, rfl⟩ := bytes_form hv
  replace h1 := Lib.hid h1
  replace h2 := Lib.hid h2
  clear hv hD hA e0 hs
  go_enter Tryz.func14, Tryz.ntmps14
  go_wp2_with fail
  refine h1.out.mono ?_
  rintro e w1 ⟨v1, rfl, r1, q1⟩
  have k2 := Lib.hid (h2.out v1 w1 r1)
  obtain ⟨p1, c1, rfl⟩ := ri_form r1
  replace q1 := Lib.hid q1
  clear r1
  go_wp2_with fail
  refine k2.out.mono ?_
  rintro e w2 ⟨v2, rfl, r2, q2⟩
  obtain ⟨p2, c2, rfl⟩ := rr_form r2
  replace r2 := Lib.hid r2
  replace q2 := Lib.hid (below_on q1.out q2)
  go_wp2_with fail
  go_ret
  exact ⟨_, rfl, r2.out, q2.out⟩
/-- as many frames as came so far -/
theorem frames_next {L : List (List Int)} {i : Nat} (h : i < L.length) : (L.take (i + 1)).flatMap Frm.putF = (L.take i).flatMap Frm.putF ++ Frm.putF L[i] := by
  rw [List.take_succ_eq_append_getElem h, List.flatMap_append, List.flatMap_cons, List.flatMap_nil, List.append_nil]
theorem frames_part {L : List (List Int)} {i : Nat} (h : i < L.length) : ((L.take i).flatMap Frm.putF).length + (Frm.putF L[i]).length ≤ (L.flatMap Frm.putF).length := by
  have h2 : L = L.take (i + 1) ++ L.drop (i + 1) := (List.take_append_drop _ _).symm
  have h3 := congrArg (fun l => (l.flatMap Frm.putF).length) h2
  simp only [List.flatMap_append, List.length_append] at h3
  rw [frames_next h, List.length_append] at h3
  omega
set_option maxHeartbeats 3200000 in
set_option maxRecDepth 100000 in
theorem rf14_any (v : Value) (b : List UInt8) (w : World) (hs : Flw.Small b) (hl : b.length ≤ 1000) (hv : RBytes w v b) : Calls Tryz.prog 16 #[v] w (ToldB (Flw.frameI b) w) := by
  obtain ⟨i0, hi, hz0, hz1, hz2⟩ := info_parts info_byte
  have h1 := rclusters14_any v b w hs hl hv
  have hfew := Flw.frame_few hs.b4
  have hfew2 := Flw.clusters_few hs.b4
  have hcl := Flw.clusters_len b
  unfold Flw.frameI at hfew ⊢
  obtain ⟨L, hL⟩ : ∃ L, Flw.clustersI b = L := ⟨_, rfl⟩
  rw [hL] at h1 hfew hfew2 hcl ⊢
  obtain ⟨F, hF⟩ : ∃ F, L.flatMap Frm.putF = F := ⟨_, rfl⟩
  have hpart := fun i h => frames_part (L := L) (i := i) h
  rw [hF] at hfew hpart ⊢
  unfold ToldR at h1
  obtain ⟨p, cap, rfl⟩ := bytes_form hv
  replace h1 := Lib.hid h1
  replace hF := Lib.hid hF
  replace hpart := Lib.hid hpart
  replace hcl := Lib.hid hcl
  clear hv hL hs
  go_enter Tryz.func16, Tryz.ntmps16
  go_wp2_with fail
  refine h1.out.mono ?_
  rintro e w1 ⟨v1, rfl, r1, q1⟩
  obtain ⟨p1, c1, rfl⟩ := rr_form r1
  replace r1 := Lib.hid r1
  replace q1 := Lib.hid q1
  go_wp2_with fail
  go_loopg [4, 5] L.length (fun g vo vi wr => ∃ i : Nat, i ≤ L.length ∧ vi = .int .i64 i ∧ g = L.length - i ∧ OwnB w1.heap.size vo ((L.take i).flatMap Frm.putF) wr ∧ Below w1.heap.size w1 wr)
  case atStart => exact ⟨0, Nat.zero_le _, rfl, rfl, ownB_nil _ _, Below.refl _ _⟩
  case round =>
    obtain ⟨i, hile, rfl, rfl, hown, hbel⟩ := hrel
    by_cases hlt : i < L.length
    · have hlt' : (i : Int) < (L.length : Int) := by omega
      obtain ⟨b1, o1, rfl, hb1, hc1⟩ := rr_at r1.out (by omega)
      obtain ⟨u, hu, hru⟩ := hc1 i hlt
      have hcell := (hbel.cell (p := ⟨b1, o1 + i, none⟩) hb1).trans hu
      have hru2 := ri_below hru hbel
      have hlen := (hcl.out L[i] (List.getElem_mem hlt)).2
      have hput := rput13_any u L[i] wr (by omega) hru2
      have hp := hpart.out i hlt
      have hn := frames_next hlt
      obtain ⟨P, hP⟩ : ∃ P, Frm.putF L[i] = P := ⟨_, rfl⟩
      rw [hP] at hput hp hn
      obtain ⟨O, hO⟩ : ∃ O, (L.take i).flatMap Frm.putF = O := ⟨_, rfl⟩
      rw [hO] at hown hp hn
      obtain ⟨pu, cu, rfl⟩ := ri_form hru
      obtain ⟨cl, hcl2⟩ : ∃ cl, L[i] = cl := ⟨_, rfl⟩
      rw [hcl2] at hput hcell
      unfold ToldB at hput
      replace hput := Lib.hid hput
      replace hn := Lib.hid hn
      replace hown := Lib.hid hown
      replace hbel := Lib.hid hbel
      have hOl : O.length + P.length ≤ 6600000 := by omega
      clear hc1 hu hru hru2 hP hO hcl2 hp hlen
      go_wp2_with fail
      refine hput.out.mono ?_
      rintro e w2 ⟨v2, rfl, r2, q2⟩
      obtain ⟨p2, c2, rfl⟩ := bytes_form r2
      have o2 := Lib.hid (ownB_below hown.out q2)
      have b2 := Lib.hid (below_on hbel.out q2)
      replace r2 := Lib.hid r2
      clear q2
      go_wp2_with (at_builtin; refine wpList_append_src rfl _ _ 22 rfl w1.heap.size 5 i0 (.int .u8 0) 1 Tryz.underlying22 hi hz0 hz1 hz2 rfl _ _ _ rfl o2.out _ _ rfl (bytes_src r2.out) (bytes_oneCell _) (by simp only [List.length_append, List.length_take, List.length_drop, List.length_cons, List.length_nil, List.length_singleton, Lib.byteCells_length]; unfold maxLen; omega) (by simp only [List.length_append, List.length_take, List.length_drop, List.length_cons, List.length_nil, List.length_singleton, Lib.byteCells_length]; omega) b2.out.size ?_; intro v5 w5 ho5 hg5; have o5 := Lib.hid (ownB_of_row (l := O ++ P) ho5 (by (try simp [Lib.byteCells]); try omega) (by simp [Lib.byteCells])); have b5 := Lib.hid (below_row b2.out hg5 b2.out.size o2.out (Nat.le_refl _)); clear ho5 hg5)
      go_roundg (L.length - (i + 1))
      case measure => omega
      case rel => exact ⟨i + 1, by omega, by go_num, rfl, by rw [hn.out]; exact o5.out, b5.out⟩
    · obtain rfl : i = L.length := by omega
      have hlt' : decide ((L.length : Int) < (L.length : Int)) = false := by simp
      rw [List.take_length, hF.out] at hown
      replace hown := Lib.hid hown
      replace hbel := Lib.hid hbel
      go_wp2_with fail
      go_ret
      exact ⟨_, rfl, bytes_of_own hown.out, q1.out.trans (hbel.out.mono q1.out.size)⟩
set_option maxHeartbeats 3200000 in
set_option maxRecDepth 100000 in
theorem rtexts14_any (v : Value) (b : List UInt8) (w : World) (hs : Flw.Small b) (hl : b.length ≤ 1000) (hv : RBytes w v b) : Calls Tryz.prog 19 #[v] w (ToldS (Flw.textsI b) w) := by
  obtain ⟨i0, hi, hz0, hz1, hz2⟩ := info_parts info_s
  have h1 := rclusters14_any v b w hs hl hv
  have hfew := Flw.clusters_few hs.b4
  have hcl := Flw.clusters_len b
  unfold Flw.textsI
  obtain ⟨L, hL⟩ : ∃ L, Flw.clustersI b = L := ⟨_, rfl⟩
  rw [hL] at h1 hfew hcl ⊢
  unfold ToldR at h1
  obtain ⟨p, cap, rfl⟩ := bytes_form hv
  replace h1 := Lib.hid h1
  replace hcl := Lib.hid hcl
  clear hv hL hs
  go_enter Tryz.func19, Tryz.ntmps19
  go_wp2_with fail
  refine h1.out.mono ?_
  rintro e w1 ⟨v1, rfl, r1, q1⟩
  obtain ⟨p1, c1, rfl⟩ := rr_form r1
  replace r1 := Lib.hid r1
  replace q1 := Lib.hid q1
  go_wp2_with fail
  go_loopg [4, 5] L.length (fun g vo vi wr => ∃ (i : Nat) (O : List (List UInt8)), i ≤ L.length ∧ vi = .int .i64 i ∧ g = L.length - i ∧ Hid ((L.take i).map Dec.textL = O) ∧ O.length = i ∧ OwnS w1.heap.size vo O wr ∧ Below w1.heap.size w1 wr)
  case atStart => exact ⟨0, [], Nat.zero_le _, rfl, rfl, Lib.hid rfl, rfl, ownS_nil _ _, Below.refl _ _⟩
  case round =>
    obtain ⟨i, O, hile, rfl, rfl, hO, hOl, hown, hbel⟩ := hrel
    by_cases hlt : i < L.length
    · have hlt' : (i : Int) < (L.length : Int) := by omega
      obtain ⟨b1, o1, rfl, hb1, hc1⟩ := rr_at r1.out (by omega)
      obtain ⟨u, hu, hru⟩ := hc1 i hlt
      have hcell := (hbel.cell (p := ⟨b1, o1 + i, none⟩) hb1).trans hu
      have hlen := (hcl.out L[i] (List.getElem_mem hlt)).2
      have htext := Lib.hid (Tx.rtext_any u L[i] wr (by omega) (ri_below hru hbel))
      have hn : Hid ((L.take (i + 1)).map Dec.textL = O ++ [Dec.textL L[i]]) := Lib.hid (by rw [List.take_succ_eq_append_getElem hlt, List.map_append, hO.out]; rfl)
      obtain ⟨T, hT⟩ : ∃ T, Dec.textL L[i] = T := ⟨_, rfl⟩
      rw [hT] at htext hn
      obtain ⟨pu, cu, rfl⟩ := ri_form hru
      obtain ⟨cl, hcl2⟩ : ∃ cl, L[i] = cl := ⟨_, rfl⟩
      rw [hcl2] at htext hcell
      unfold Tx.TextRes at htext
      have hlen1 := Lib.hid (show O.length + 1 ≤ maxLen by unfold maxLen; omega)
      have hlen2 := Lib.hid (show (O.length + 1) * 16 ≤ 140737488355328 by omega)
      replace hown := Lib.hid hown
      replace hbel := Lib.hid hbel
      clear hc1 hu hru hT hcl2 hlen hO
      go_wp2_with fail
      refine htext.out.mono ?_
      rintro e w2 ⟨rfl, q2⟩
      have o2 := Lib.hid (ownS_alloc (ownS_below hown.out q2) (.cells #[strV T] 9))
      have b2 := Lib.hid ((below_on hbel.out q2).alloc (below_on hbel.out q2).size (.cells #[strV T] 9))
      have s2 := Lib.hid (srcT_one w2 (strV T) 9)
      clear q2
      go_wp2_with (at_builtin; refine wpList_append_src rfl _ _ 32 rfl w1.heap.size 9 i0 (.string ⟨#[]⟩) 16 Tryz.underlying32 hi hz0 hz1 hz2 rfl _ _ _ rfl o2.out _ _ rfl s2.out (oneCellS T) (by rw [List.length_singleton]; exact hlen1.out) (by rw [List.length_singleton]; exact hlen2.out) b2.out.size ?_; intro v5 w5 hown5 hgrow5; have o5 := Lib.hid (ownS_of_row (l := O ++ [T]) hown5 (by simp) (by simp)); have b5 := Lib.hid (below_row b2.out hgrow5 b2.out.size o2.out (Nat.le_refl _)); clear hown5 hgrow5)
      go_roundg (L.length - (i + 1))
      case measure => omega
      case rel => exact ⟨i + 1, O ++ [T], by omega, by go_num, rfl, hn, by simp; omega, o5.out, b5.out⟩
    · obtain rfl : i = L.length := by omega
      have hlt' : decide ((L.length : Int) < (L.length : Int)) = false := by simp
      have hO2 := hO.out
      rw [List.take_length] at hO2
      subst hO2
      replace hown := Lib.hid hown
      replace hbel := Lib.hid hbel
      clear hO
      go_wp2_with fail
      go_ret
      exact ⟨_, rfl, sr_of_own hown.out, q1.out.trans (hbel.out.mono q1.out.size)⟩
end Go.Proofs.YtnlnkjaapdefiaaGreatDoor
