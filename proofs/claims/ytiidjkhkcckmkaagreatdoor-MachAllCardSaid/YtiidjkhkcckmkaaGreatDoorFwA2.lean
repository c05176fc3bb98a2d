/- Layer 14: the code's Values, Clusters, F, Texts. -/
import Derived.Test.YtiidjkhkcckmkaaGreatDoorBasQ
import Derived.Test.YtiidjkhkcckmkaaGreatDoorDcP
import Derived.Test.YtiidjkhkcckmkaaGreatDoorFoP
import Derived.Test.YtiidjkhkcckmkaaGreatDoorSgQ
import Derived.Test.YtiidjkhkcckmkaaGreatDoorFrP
import Derived.Test.YtiidjkhkcckmkaaGreatDoorNfP
namespace Go.Proofs.YtiidjkhkcckmkaaGreatDoor
set_option linter.unusedSimpArgs false
set_option linter.unusedVariables false
open Go.RowKit Go.Lib
theorem wf_read (b : List UInt8) : WfI (Dec.allL b) := fun x hx => by
  have := (Dec.goodB_iff x).1 (Dec.all_good b x hx)
  omega
set_option maxHeartbeats 1600000 in
set_option maxRecDepth 100000 in
theorem values14_any (v : Value) (b : List UInt8) (w : World) (hT : Tabs w) (hs : Flw.Small b) (hv : RBytes w v b) : Calls Tryz.prog 90 #[v] w (Told (Flw.valuesI b) w) := by
  obtain ⟨s0, s1, s2, s3, s4⟩ := hs
  have h1 := Tx.all_told v b w hT (by omega) hv
  have e0 : Flw.valuesI b = Fol.allI (Nor.allI (Dec.allL b)) := by rw [Nor.all_form, Fol.all_form]; rfl
  rw [e0]
  have hw := wf_read b
  have hw2 := wf_nfkc hw
  rw [← Nor.all_form] at s2 s3 hw2
  obtain ⟨D, hD⟩ : ∃ D, Dec.allL b = D := ⟨_, rfl⟩
  rw [hD] at s1 s2 s3 h1 hw2 ⊢
  have h2 := fun V W h => all9_wide V D W (by omega) h
  obtain ⟨E, hE⟩ : ∃ E, Nor.allI D = E := ⟨_, rfl⟩
  rw [hE] at s2 s3 h2 hw2 ⊢
  have h3 := fun V W h => all10_wide V E W (by omega) (by omega) h hw2
  obtain ⟨G, hG⟩ : ∃ G, Fol.allI E = G := ⟨_, rfl⟩
  rw [hG] at h3 ⊢
  unfold Told at h1 h2 h3
  obtain ⟨p, cap, rfl⟩ := bytes_form hv
  replace h1 := Lib.hid h1
  replace h2 := Lib.hid h2
  replace h3 := Lib.hid h3
  clear hv hD hE hG e0 hw hw2 s0 s1 s2 s3 s4 hT
  go_enter Tryz.func90, Tryz.ntmps90
  go_wp2_with fail
  refine h1.out.mono ?_
  rintro e w1 ⟨v1, rfl, r1, q1⟩
  have k2 := Lib.hid (h2.out v1 w1 r1)
  obtain ⟨p1, c1, rfl⟩ := ri_form r1
  replace q1 := Lib.hid q1
  clear r1
  go_wp2_with fail
  refine k2.out.mono ?_
  rintro e w2 ⟨v2, rfl, r2, q2⟩
  have k3 := Lib.hid (h3.out v2 w2 r2)
  obtain ⟨p2, c2, rfl⟩ := ri_form r2
  replace q2 := Lib.hid (below_on q1.out q2)
  clear r2
  go_wp2_with fail
  refine k3.out.mono ?_
  rintro e w3 ⟨v3, rfl, r3, q3⟩
  obtain ⟨p3, c3, rfl⟩ := ri_form r3
  replace r3 := Lib.hid r3
  replace q3 := Lib.hid (below_on q2.out q3)
  go_wp2_with fail
  go_ret
  exact ⟨_, rfl, r3.out, q3.out⟩
set_option maxHeartbeats 1600000 in
set_option maxRecDepth 100000 in
theorem clusters14_any (v : Value) (b : List UInt8) (w : World) (hT : Tabs w) (hs : Flw.Small b) (hv : RBytes w v b) : Calls Tryz.prog 56 #[v] w (ToldR (Flw.clustersI b) w) := by
  have h1 := values14_any v b w hT hs hv
  have s4 := hs.b4
  have e0 : Flw.clustersI b = Sgm.allI (Flw.valuesI b) := rfl
  rw [e0]
  obtain ⟨D, hD⟩ : ∃ D, Flw.valuesI b = D := ⟨_, rfl⟩
  rw [hD] at s4 h1 ⊢
  have h2 := fun V W h => all12_any V D W (by omega) h
  obtain ⟨A, hA⟩ : ∃ A, Sgm.allI D = A := ⟨_, rfl⟩
  rw [hA] at h2 ⊢
  unfold Told at h1
  unfold ToldR at h2
  obtain ⟨p, cap, rfl⟩ := bytes_form hv
  replace h1 := Lib.hid h1
  replace h2 := Lib.hid h2
  clear hv hD hA e0 hs hT
  go_enter Tryz.func56, Tryz.ntmps56
  go_wp2_with fail
  refine h1.out.mono ?_
  rintro e w1 ⟨v1, rfl, r1, q1⟩
  have k2 := Lib.hid (h2.out v1 w1 r1)
  obtain ⟨p1, c1, rfl⟩ := ri_form r1
  replace q1 := Lib.hid q1
  clear r1
  go_wp2_with fail
  refine k2.out.mono ?_
  rintro e w2 ⟨v2, rfl, r2, q2⟩
  obtain ⟨p2, c2, rfl⟩ := rr_form r2
  replace r2 := Lib.hid r2
  replace q2 := Lib.hid (below_on q1.out q2)
  go_wp2_with fail
  go_ret
  exact ⟨_, rfl, r2.out, q2.out⟩
/-- as many frames as came so far -/
theorem frames_next14 {L : List (List Int)} {i : Nat} (h : i < L.length) : (L.take (i + 1)).flatMap Frm.putF = (L.take i).flatMap Frm.putF ++ Frm.putF L[i] := by
  rw [List.take_succ_eq_append_getElem h, List.flatMap_append, List.flatMap_cons, List.flatMap_nil, List.append_nil]
theorem frames_part14 {L : List (List Int)} {i : Nat} (h : i < L.length) : ((L.take i).flatMap Frm.putF).length + (Frm.putF L[i]).length ≤ (L.flatMap Frm.putF).length := by
  have h2 : L = L.take (i + 1) ++ L.drop (i + 1) := (List.take_append_drop _ _).symm
  have h3 := congrArg (fun l => (l.flatMap Frm.putF).length) h2
  simp only [List.flatMap_append, List.length_append] at h3
  rw [frames_next14 h, List.length_append] at h3
  omega
set_option maxHeartbeats 3200000 in
set_option maxRecDepth 100000 in
theorem ofF14_any (v : Value) (L : List (List Int)) (w : World) (hl : L.length ≤ 50000) (hcl : ∀ c ∈ L, c.length ≤ 32) (hfew : (L.flatMap Frm.putF).length ≤ 6600000) (hv : RR w v L) : Calls Tryz.prog 55 #[.func (.func 54) #[] #[], v] w (ToldB (L.flatMap Frm.putF) w) := by
  obtain ⟨i0, hi, hz0, hz1, hz2⟩ := info_parts info_byte
  obtain ⟨F, hF⟩ : ∃ F, L.flatMap Frm.putF = F := ⟨_, rfl⟩
  have hpart := fun i h => frames_part14 (L := L) (i := i) h
  rw [hF] at hfew hpart ⊢
  obtain ⟨p1, c1, rfl⟩ := rr_form hv
  replace hF := Lib.hid hF
  replace hpart := Lib.hid hpart
  replace hcl := Lib.hid hcl
  have r1 := Lib.hid hv
  clear hv
  go_enter Tryz.func55, Tryz.ntmps55
  go_wp2_with fail
  go_loopg [5, 10] L.length (fun g vo vi wr => ∃ i : Nat, i ≤ L.length ∧ vi = .int .i64 i ∧ g = L.length - i ∧ OwnB w.heap.size vo ((L.take i).flatMap Frm.putF) wr ∧ Below w.heap.size w wr)
  case atStart => exact ⟨0, Nat.zero_le _, rfl, rfl, ownB_nil _ _, Below.refl _ _⟩
  case round =>
    obtain ⟨i, hile, rfl, rfl, hown, hbel⟩ := hrel
    by_cases hlt : i < L.length
    · have hlt' : (i : Int) < (L.length : Int) := by omega
      obtain ⟨b1, o1, rfl, hb1, hc1⟩ := rr_at r1.out (by omega)
      obtain ⟨u, hu, hru⟩ := hc1 i hlt
      have hcell := (hbel.cell (p := ⟨b1, o1 + i, none⟩) hb1).trans hu
      have hru2 := ri_below hru hbel
      have hlen := hcl.out L[i] (List.getElem_mem hlt)
      have hput := put13_any u L[i] wr (by omega) hru2
      have hp := hpart.out i hlt
      have hn := frames_next14 hlt
      obtain ⟨P, hP⟩ : ∃ P, Frm.putF L[i] = P := ⟨_, rfl⟩
      rw [hP] at hput hp hn
      obtain ⟨O, hO⟩ : ∃ O, (L.take i).flatMap Frm.putF = O := ⟨_, rfl⟩
      rw [hO] at hown hp hn
      obtain ⟨pu, cu, rfl⟩ := ri_form hru
      obtain ⟨cl, hcl2⟩ : ∃ cl, L[i] = cl := ⟨_, rfl⟩
      rw [hcl2] at hput hcell
      unfold ToldB at hput
      replace hput := Lib.hid hput
      replace hn := Lib.hid hn
      replace hown := Lib.hid hown
      replace hbel := Lib.hid hbel
      have hOl : O.length + P.length ≤ 6600000 := by omega
      clear hc1 hu hru hru2 hP hO hcl2 hp hlen
      go_wp2_with fail
      refine hput.out.mono ?_
      rintro e w2 ⟨v2, rfl, r2, q2⟩
      obtain ⟨p2, c2, rfl⟩ := bytes_form r2
      have o2 := Lib.hid (ownB_below hown.out q2)
      have b2 := Lib.hid (below_on hbel.out q2)
      replace r2 := Lib.hid r2
      clear q2
      go_wp2_with (at_builtin; refine wpList_append_src rfl _ _ 59 rfl w.heap.size 5 i0 (.int .u8 0) 1 Tryz.underlying59 hi hz0 hz1 hz2 rfl _ _ _ rfl o2.out _ _ rfl (bytes_src r2.out) (bytes_oneCell _) (by simp only [List.length_append, List.length_take, List.length_drop, List.length_cons, List.length_nil, List.length_singleton, Lib.byteCells_length]; unfold maxLen; omega) (by simp only [List.length_append, List.length_take, List.length_drop, List.length_cons, List.length_nil, List.length_singleton, Lib.byteCells_length]; omega) b2.out.size ?_; intro v5 w5 ho5 hg5; have o5 := Lib.hid (ownB_of_row (l := O ++ P) ho5 (by (try simp [Lib.byteCells]); try omega) (by simp [Lib.byteCells])); have b5 := Lib.hid (below_row b2.out hg5 b2.out.size o2.out (Nat.le_refl _)); clear ho5 hg5)
      go_roundg (L.length - (i + 1))
      case measure => omega
      case rel => exact ⟨i + 1, by omega, by go_num, rfl, by rw [hn.out]; exact o5.out, b5.out⟩
    · obtain rfl : i = L.length := by omega
      have hlt' : decide ((L.length : Int) < (L.length : Int)) = false := by simp
      rw [List.take_length, hF.out] at hown
      replace hown := Lib.hid hown
      replace hbel := Lib.hid hbel
      go_wp2_with fail
      go_ret
      exact ⟨_, rfl, bytes_of_own hown.out, hbel.out⟩
set_option maxHeartbeats 1600000 in
set_option maxRecDepth 100000 in
theorem f14_any (v : Value) (b : List UInt8) (w : World) (hT : Tabs w) (hs : Flw.Small b) (hv : RBytes w v b) : Calls Tryz.prog 26 #[v] w (ToldB (Flw.frameI b) w) := by
  have h1 := clusters14_any v b w hT hs hv
  have hfew := Flw.frame_few hs.b4
  have hfew2 := Flw.clusters_few hs.b4
  have hcl := fun c hc => (Flw.clusters_len b c hc).2
  unfold Flw.frameI at hfew ⊢
  obtain ⟨L, hL⟩ : ∃ L, Flw.clustersI b = L := ⟨_, rfl⟩
  rw [hL] at h1 hfew hfew2 hcl ⊢
  have h2 := fun V W h => ofF14_any V L W hfew2 hcl hfew h
  obtain ⟨F, hF⟩ : ∃ F, L.flatMap Frm.putF = F := ⟨_, rfl⟩
  rw [hF] at h2 ⊢
  unfold ToldR at h1
  unfold ToldB at h2
  obtain ⟨p, cap, rfl⟩ := bytes_form hv
  replace h1 := Lib.hid h1
  replace h2 := Lib.hid h2
  clear hv hL hs hT hcl hfew hfew2 hF
  go_enter Tryz.func26, Tryz.ntmps26
  go_wp2_with fail
  refine h1.out.mono ?_
  rintro e w1 ⟨v1, rfl, r1, q1⟩
  have k2 := Lib.hid (h2.out v1 w1 r1)
  obtain ⟨p1, c1, rfl⟩ := rr_form r1
  replace q1 := Lib.hid q1
  clear r1
  go_wp2_with fail
  refine k2.out.mono ?_
  rintro e w2 ⟨v2, rfl, r2, q2⟩
  obtain ⟨p2, c2, rfl⟩ := bytes_form r2
  replace r2 := Lib.hid r2
  replace q2 := Lib.hid (below_on q1.out q2)
  go_wp2_with fail
  go_ret
  exact ⟨_, rfl, r2.out, q2.out⟩
theorem fC14 : FC14 := fun v b w hT hs hv => f14_any v b w hT hs hv
end Go.Proofs.YtiidjkhkcckmkaaGreatDoor
