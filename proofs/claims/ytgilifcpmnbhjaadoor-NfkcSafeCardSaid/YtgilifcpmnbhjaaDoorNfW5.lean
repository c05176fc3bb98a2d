/- Layer 8: the walk of NfkcSafe. -/
import Derived.Test.YtgilifcpmnbhjaaDoorNfW0
import Derived.Deep.LoopGhost
import Derived.Deep.DeepCutAuto
namespace Go.Proofs.YtgilifcpmnbhjaaDoor
set_option linter.unusedSimpArgs false
set_option linter.unusedVariables false
open Go.RowKit Go.Lib

theorem last_step {s l : List Int} {i k : Nat} (h : Nfk.lastOf (s.drop i) (l.drop k) = some []) (hi : i < s.length) :
    (∃ hk : k < l.length, s[i] = l[k] ∧ Nfk.lastOf (s.drop (i + 1)) (l.drop (k + 1)) = some []) ∨ (s[i] = 847 ∧ (∀ hk : k < l.length, s[i] ≠ l[k]) ∧ Nfk.lastOf (s.drop (i + 1)) (l.drop k) = some []) := by
  rw [List.drop_eq_getElem_cons hi] at h
  by_cases hk : k < l.length
  · rw [List.drop_eq_getElem_cons hk] at h
    unfold Nfk.lastOf at h
    by_cases e : s[i] = l[k]
    · rw [if_pos e] at h
      exact .inl ⟨hk, e, h⟩
    · rw [if_neg e] at h
      by_cases e2 : s[i] = 847
      · rw [if_pos e2, ← List.drop_eq_getElem_cons hk] at h
        exact .inr ⟨e2, fun _ => e, h⟩
      · rw [if_neg e2] at h
        cases h
  · rw [List.drop_eq_nil_of_le (by omega : l.length ≤ k)] at h
    unfold Nfk.lastOf at h
    by_cases e2 : s[i] = 847
    · rw [if_pos e2] at h
      exact .inr ⟨e2, fun hk' => absurd hk' hk, by rw [List.drop_eq_nil_of_le (by omega : l.length ≤ k)]; exact h⟩
    · rw [if_neg e2] at h
      cases h
theorem last_end {s l : List Int} {k : Nat} (h : Nfk.lastOf (s.drop s.length) (l.drop k) = some []) : l.length ≤ k := by
  rw [List.drop_length] at h
  unfold Nfk.lastOf at h
  have := congrArg List.length (Option.some.inj h)
  simp at this
  omega


set_option maxHeartbeats 6400000 in
set_option maxRecDepth 100000 in
theorem nfkcSafe_walk (hM : MadeC) (hS : SafeC) (hD : NfkdC) (hK : NfkcC) (hF : FormC) (hR : MarksC) (v : Value) (l : List Int) (w : World) (hv : RI w v l ∧ WfI l) :
    Calls Tryd.prog 5 #[v] w fun e w' => e = .returned (.bool true) ∧ Below w.heap.size w w' := by
  obtain ⟨hri, hwf⟩ := hv
  obtain ⟨p, cap, rfl⟩ := ri_form hri
  have hawake := Lib.hid (awake8 hM hK hF)
  replace hri := Lib.hid hri
  by_cases hl : l.length ≤ 150
  · have hl' : decide (150 < l.length) = false := decide_eq_false (by omega)
    have n2 := safe_lenN l
    have n3 := nfkd_len l
    have n4 := nfkc_len l
    have hsl := Nfk.safe_len l 0 (by omega)
    have hsafe := Lib.hid (fun W => safe_of hS (v := .slice p l.length cap) (w := W) rfl (by omega) hwf)
    have hnd := Lib.hid (fun W => nfkd_of hD (v := .slice p l.length cap) (w := W) rfl (by omega) hwf)
    have hnc := Lib.hid (fun W => nfkc_of hK (v := .slice p l.length cap) (w := W) rfl (by omega) hwf)
    have hms := Lib.hid (fun V W h => marks_of hR (v := V) (w := W) (l := Nfk.safeI l 0) rfl (by omega) h (wf_safe hwf))
    have hmd := Lib.hid (fun V W h => marks_of hR (v := V) (w := W) (l := Nfk.nfkdI l) rfl (by omega) h (wf_nfkd hwf))
    have hmc := Lib.hid (fun V W h => marks_of hR (v := V) (w := W) (l := Nfk.nfkcI l) rfl (by omega) h (wf_nfkc hwf))
    have hml := Lib.hid (fun W h => marks_of hR (v := .slice p l.length cap) (w := W) (l := l) rfl (by omega) h hwf)
    have hss := Lib.hid (fun V W => safe_of hS (v := V) (w := W) (Nfk.safe_same0 (Nfk.safe_marks0 l)) (by omega) (wf_safe hwf))
    have k1 := Nfk.safe_marks0 l
    have k2 := Nfk.nfkd_marks l
    have k3 := Nfk.nfkc_marks l
    have hlast := Nfk.safe_last l 0
    have hend : decide ((30 : Int) < (Can.marksI l : Nat)) = true ∨ (decide ((30 : Int) < (Can.marksI l : Nat)) = false ∧ ((Nfk.safeI l 0).length = l.length)) := by
      by_cases h : Can.marksI l ≤ 30
      · exact .inr ⟨decide_eq_false (by omega), by rw [Nfk.safe_same0 h]⟩
      · exact .inl (decide_eq_true (by omega))
    obtain ⟨S, hSS⟩ : ∃ A, Nfk.safeI l 0 = A := ⟨_, rfl⟩
    obtain ⟨D, hDD⟩ : ∃ A, Nfk.nfkdI l = A := ⟨_, rfl⟩
    obtain ⟨C, hC⟩ : ∃ A, Nfk.nfkcI l = A := ⟨_, rfl⟩
    rw [hSS] at hsafe hms hss hlast n2 k1 hend hsl
    rw [hDD] at hnd hmd n3 k2
    rw [hC] at hnc hmc n4 k3
    obtain ⟨m1, hm1⟩ : ∃ m, Can.marksI S = m := ⟨_, rfl⟩
    obtain ⟨m2, hm2⟩ : ∃ m, Can.marksI D = m := ⟨_, rfl⟩
    obtain ⟨m3, hm3⟩ : ∃ m, Can.marksI C = m := ⟨_, rfl⟩
    obtain ⟨m4, hm4⟩ : ∃ m, Can.marksI l = m := ⟨_, rfl⟩
    rw [hm1] at hms k1
    rw [hm2] at hmd k2
    rw [hm3] at hmc k3
    rw [hm4] at hml hend
    have d1 : decide ((30 : Int) < (m1 : Int)) = false := decide_eq_false (by omega)
    have d2 : decide ((30 : Int) < (m2 : Int)) = false := decide_eq_false (by omega)
    have d3 : decide ((30 : Int) < (m3 : Int)) = false := decide_eq_false (by omega)
    obtain ⟨hsl1, hsl2⟩ := hsl
    have hsub : (S.length : Int) - (l.length : Int) = ((S.length - l.length : Nat) : Int) := by omega
    have hdiv : (l.length : Int).tdiv 30 = ((l.length / 30 : Nat) : Int) := by rw [Int.tdiv_eq_ediv_of_nonneg (by omega)]; omega
    have hle : S.length - l.length ≤ l.length / 30 := by omega
    obtain ⟨x1, hx1⟩ : ∃ x, S.length - l.length = x := ⟨_, rfl⟩
    obtain ⟨x2, hx2⟩ : ∃ x, l.length / 30 = x := ⟨_, rfl⟩
    rw [hx1] at hsub hle
    rw [hx2] at hdiv hle
    have hwx : wrap64 (x2 : Int) = (x2 : Int) := by unfold wrap64; omega
    replace hwx := Lib.hid hwx
    have hle2 : decide (x1 ≤ x2) = true := decide_eq_true hle
    have hS310 : S.length ≤ 300 := by omega
    replace hlast := Lib.hid hlast
    replace hend := Lib.hid hend
    replace hsub := Lib.hid hsub
    replace hdiv := Lib.hid hdiv
    clear hSS hDD hC hm1 hm2 hm3 hm4 hwf hM hS hD hK hF hR n2 n3 n4 hsl1 hsl2 hx1 hx2 k1 k2 k3
    go_enter Tryd.func5, Tryd.ntmps5
    go_wp2_with fail
    refine (hawake.out _).mono ?_
    rintro e w1 ⟨rfl, q1⟩
    have b1 := Lib.hid q1
    clear q1
    go_wp2_with fail
    refine (hsafe.out _ (ri_below hri.out b1.out)).mono ?_
    rintro e w2 ⟨v_rs, rfl, rs, q2⟩
    obtain ⟨p_rs, c_rs, rfl⟩ := ri_form rs
    replace rs := Lib.hid rs
    have b2 := Lib.hid (below_on b1.out q2)
    clear q2
    go_wp2_with fail
    refine (hms.out _ _ rs.out).mono ?_
    rintro e w3 ⟨rfl, q3⟩
    replace rs := Lib.hid (ri_below rs.out q3)
    have b3 := Lib.hid (below_on b2.out q3)
    clear q3
    go_wp2_with fail
    refine (hnd.out _ (ri_below hri.out b3.out)).mono ?_
    rintro e w4 ⟨v_rd, rfl, rd, q4⟩
    replace rd := Lib.hid rd
    replace rs := Lib.hid (ri_below rs.out q4)
    have b4 := Lib.hid (below_on b3.out q4)
    clear q4
    go_wp2_with fail
    refine (hmd.out _ _ rd.out).mono ?_
    rintro e w5 ⟨rfl, q5⟩
    replace rs := Lib.hid (ri_below rs.out q5)
    replace rd := Lib.hid (ri_below rd.out q5)
    have b5 := Lib.hid (below_on b4.out q5)
    clear q5
    clear rd
    go_wp2_with fail
    refine (hnc.out _ (ri_below hri.out b5.out)).mono ?_
    rintro e w6 ⟨v_rc, rfl, rc, q6⟩
    replace rc := Lib.hid rc
    replace rs := Lib.hid (ri_below rs.out q6)
    have b6 := Lib.hid (below_on b5.out q6)
    clear q6
    go_wp2_with fail
    refine (hmc.out _ _ rc.out).mono ?_
    rintro e w7 ⟨rfl, q7⟩
    replace rs := Lib.hid (ri_below rs.out q7)
    replace rc := Lib.hid (ri_below rc.out q7)
    have b7 := Lib.hid (below_on b6.out q7)
    clear q7
    clear rc
    go_wp2_with fail
    go_loopg [5, 6] S.length (fun g vk vi wr => ∃ (k i : Nat), k ≤ l.length ∧ i ≤ S.length ∧ vk = .int .i64 k ∧ vi = .int .i64 i ∧ g = S.length - i ∧ Nfk.lastOf (S.drop i) (l.drop k) = some [] ∧ Below w7.heap.size w7 wr)
    case atStart => exact ⟨0, 0, Nat.zero_le _, Nat.zero_le _, rfl, rfl, rfl, hlast.out, Below.refl _ _⟩
    case round =>
      obtain ⟨k, i, hk, hi0, rfl, rfl, rfl, hst, hbel⟩ := hrel
      by_cases hlt : i < S.length
      · obtain ⟨b, off, rfl, hb, hcell⟩ := ri_at (ri_below rs.out hbel) (by omega)
        have hc := hcell i hlt
        have hstep := last_step hst hlt
        obtain ⟨x, hx⟩ : ∃ x, S[i] = x := ⟨_, rfl⟩
        rw [hx] at hc hstep
        clear hcell hst hx
        rcases hstep with ⟨hkl, hxe, hnx⟩ | ⟨rfl, hne, hnx⟩
        · obtain ⟨bl, ol, rfl, hbl, hcl⟩ := ri_at (ri_below hri.out (below_on b7.out hbel)) (by omega)
          have hcy : wr.cell? ⟨bl, ol + k, none⟩ = some (.int .i64 x) := by rw [hcl k hkl, hxe]
          have hxx : (x == x) = true := by simp
          replace hnx := Lib.hid hnx
          replace hbel := Lib.hid hbel
          clear hcl hxe
          go_upto_region 11 with (fail)
          refine wp_region_quiet_lit (by kernel_rfl) (by kernel_rfl) ?_
          repeat (first | go_big_quiet_step (fail) | quiet_step (fail))
          refine wpQuiet_nil ?_
          intro _ hw'
          obtain ⟨nq, hw''⟩ := hw'
          subst hw''
          go_wp2_with fail
          go_roundg (S.length - (i + 1))
          case measure => omega
          case rel => exact ⟨k + 1, i + 1, by omega, by omega, by go_num, by go_num, rfl, hnx.out, below_on hbel.out (drewN_below wr nq)⟩
        · replace hnx := Lib.hid hnx
          by_cases hkl : k < l.length
          · obtain ⟨bl, ol, rfl, hbl, hcl⟩ := ri_at (ri_below hri.out (below_on b7.out hbel)) (by omega)
            have hcy := hcl k hkl
            have hne1 := hne hkl
            obtain ⟨y, hy⟩ : ∃ y, l[k] = y := ⟨_, rfl⟩
            rw [hy] at hcy hne1
            have hxy : ((847 : Int) == y) = false := by simpa using hne1
            replace hbel := Lib.hid hbel
            clear hcl hne hne1 hy
            go_upto_region 11 with (fail)
            refine wp_region_quiet_lit (by kernel_rfl) (by kernel_rfl) ?_
            repeat (first | go_big_quiet_step (fail) | quiet_step (fail))
            refine wpQuiet_nil ?_
            intro _ hw'
            obtain ⟨nq, hw''⟩ := hw'
            subst hw''
            go_wp2_with fail
            go_roundg (S.length - (i + 1))
            case measure => omega
            case rel => exact ⟨k, i + 1, by omega, by omega, by go_num, by go_num, rfl, hnx.out, below_on hbel.out (drewN_below wr nq)⟩
          · obtain rfl : k = l.length := by omega
            have hlt' : decide (l.length < l.length) = false := by simp
            replace hbel := Lib.hid hbel
            clear hne
            go_upto_region 11 with (fail)
            refine wp_region_quiet_lit (by kernel_rfl) (by kernel_rfl) ?_
            repeat (first | go_big_quiet_step (fail) | quiet_step (fail))
            refine wpQuiet_nil ?_
            intro _ hw'
            obtain ⟨nq, hw''⟩ := hw'
            subst hw''
            go_wp2_with fail
            go_roundg (S.length - (i + 1))
            case measure => omega
            case rel => exact ⟨l.length, i + 1, by omega, by omega, by go_num, by go_num, rfl, hnx.out, below_on hbel.out (drewN_below wr nq)⟩
      · obtain rfl : i = S.length := by omega
        have hkl := last_end hst
        obtain rfl : k = l.length := by omega
        have hlt' : decide (S.length < S.length) = false := by simp
        have hss1 := hsub.out
        have hdd1 := hdiv.out
        have hww1 := hwx.out
        have hll : ((l.length : Int) == (l.length : Int)) = true := by simp
        have b8 := Lib.hid (below_on b7.out hbel)
        have rs8 := Lib.hid (ri_below rs.out hbel)
        clear hst hbel hkl
        rcases hend.out with he | ⟨he, hee⟩
        · go_wp2_with fail
          refine (hml.out _ (ri_below hri.out b8.out)).mono ?_
          rintro e w9 ⟨rfl, q9⟩
          have rs9 := Lib.hid (ri_below rs8.out q9)
          have b9 := Lib.hid (below_on b8.out q9)
          clear q9
          go_wp2_with fail
          refine (hss.out _ _ rs9.out).mono ?_
          rintro e w10 ⟨v10, rfl, r10, q10⟩
          replace r10 := Lib.hid r10
          have rs10 := Lib.hid (ri_below rs9.out q10)
          have b10 := Lib.hid (below_on b9.out q10)
          clear q10
          go_wp2_with fail
          refine (same_self _ _ S _ (by omega) r10.out rs10.out).mono ?_
          rintro e w11 ⟨rfl, q11⟩
          have b11 := Lib.hid (below_on b10.out q11)
          clear q11
          go_wp2_with fail
          go_ret
          exact ⟨rfl, b11.out⟩
        · have heq : ((S.length : Int) == (l.length : Int)) = true := by rw [hee]; simp
          have hee' := Lib.hid hee
          clear hee
          go_wp2_with fail
          refine (hml.out _ (ri_below hri.out b8.out)).mono ?_
          rintro e w9 ⟨rfl, q9⟩
          have rs9 := Lib.hid (ri_below rs8.out q9)
          have b9 := Lib.hid (below_on b8.out q9)
          clear q9
          go_wp2_with fail
          refine (hss.out _ _ rs9.out).mono ?_
          rintro e w10 ⟨v10, rfl, r10, q10⟩
          replace r10 := Lib.hid r10
          have rs10 := Lib.hid (ri_below rs9.out q10)
          have b10 := Lib.hid (below_on b9.out q10)
          clear q10
          go_wp2_with fail
          refine (same_self _ _ S _ (by omega) r10.out rs10.out).mono ?_
          rintro e w11 ⟨rfl, q11⟩
          have b11 := Lib.hid (below_on b10.out q11)
          clear q11
          go_wp2_with fail
          go_ret
          exact ⟨rfl, b11.out⟩
  · have hl' : decide ((150 : Int) < (l.length : Int)) = true := decide_eq_true (by omega)
    clear hwf hM hS hD hK hF hR
    go_enter Tryd.func5, Tryd.ntmps5
    go_wp2_with fail
    refine (hawake.out w).mono ?_
    rintro e w1 ⟨rfl, hb1⟩
    replace hb1 := Lib.hid hb1
    go_wp2_with fail
    go_ret
    exact ⟨rfl, hb1.out⟩

end Go.Proofs.YtgilifcpmnbhjaaDoor
