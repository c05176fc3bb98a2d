/- Layer 12: the walk of SegCuts. -/
import Derived.Test.YtbkgjbpnogcjeaaSgW2
import Derived.Test.YtbkgjbpnogcjeaaClS
namespace Go.Proofs.Ytbkgjbpnogcjeaa
set_option linter.unusedSimpArgs false
set_option linter.unusedVariables false
open Go.RowKit Go.Lib

/-- what okCuts says of the i-th cluster -/
theorem ok_at (L : List (List Int)) : ∀ (full : Bool) (cs : List Bool), (∀ x ∈ L, 1 ≤ x.length) → Sgm.okCuts L full cs = true → ∀ i (h : i < L.length),
    (L.take i).flatten.length + L[i].length ≤ cs.length ∧ (cs[(L.take i).flatten.length]? = some true ∨ (i = 0 ∧ full = true) ∨ ∃ j, ∃ hj : j < L.length, i = j + 1 ∧ L[j].length = 32) ∧ ∀ k, 1 ≤ k → k < L[i].length → cs[(L.take i).flatten.length + k]? = some false := by
  induction L with
  | nil => intro _ _ _ _ i h; simp at h
  | cons x t ih =>
    intro full cs hn hok i h
    cases cs with
    | nil => simp [Sgm.okCuts] at hok
    | cons f cs' =>
      simp only [Sgm.okCuts, Bool.and_eq_true, decide_eq_true_eq, Bool.or_eq_true] at hok
      obtain ⟨⟨⟨h1, h2⟩, h3⟩, h4⟩ := hok
      have hx := hn x (List.mem_cons_self ..)
      cases i with
      | zero =>
        simp only [List.take_zero, List.flatten_nil, List.length_nil, List.getElem_cons_zero, Nat.zero_add, List.length_cons]
        refine ⟨by omega, ?_, fun k hk1 hk2 => ?_⟩
        · rcases h1 with h1 | h1
          · exact .inr (.inl (by simp [h1]))
          · exact .inl (by simp [h1])
        · obtain ⟨m, rfl⟩ : ∃ m, k = m + 1 := ⟨k - 1, by omega⟩
          rw [List.getElem?_cons_succ]
          have hm : m < cs'.length := by omega
          have hm2 : m < (cs'.take (x.length - 1)).length := by rw [List.length_take]; omega
          rw [List.all_eq_true] at h3
          have h5 := h3 _ (List.getElem_mem hm2)
          rw [List.getElem_take] at h5
          rw [List.getElem?_eq_getElem hm]
          simpa using h5
      | succ i =>
        have hi : i < t.length := by simpa using h
        have hd : (f :: cs').drop x.length = cs'.drop (x.length - 1) := by
          obtain ⟨m, hm⟩ : ∃ m, x.length = m + 1 := ⟨x.length - 1, by omega⟩
          rw [hm]
          rfl
        obtain ⟨g1, g2, g3⟩ := ih _ _ (fun y hy => hn y (List.mem_cons_of_mem _ hy)) h4 i hi
        rw [← hd] at g1 g2 g3
        rw [List.length_drop] at g1
        have hlc : (f :: cs').length = cs'.length + 1 := rfl
        simp only [List.getElem?_drop] at g2 g3
        have e : ((x :: t).take (i + 1)).flatten.length = x.length + (t.take i).flatten.length := by simp
        rw [e]
        simp only [List.getElem_cons_succ]
        refine ⟨by rw [hlc] at g1 ⊢; omega, ?_, fun k hk1 hk2 => ?_⟩
        · rcases g2 with g2 | ⟨rfl, g2⟩ | ⟨j, hj, rfl, g2⟩
          · exact .inl g2
          · exact .inr (.inr ⟨0, by simp, rfl, by simpa using g2⟩)
          · exact .inr (.inr ⟨j + 1, by simp; omega, rfl, by simpa using g2⟩)
        · rw [Nat.add_assoc]; exact g3 k hk1 hk2


set_option maxHeartbeats 12800000 in
set_option maxRecDepth 100000 in
theorem segCuts_walk (hS : SaneC12) (hA : AllC12) (hC : CutsC11) (v : Value) (l : List Int) (w : World) (hv : RI w v l ∧ WfI l) :
    Calls Try.prog 5 #[v] w fun e w' => e = .returned (.bool true) ∧ Below w.heap.size w w' := by
  obtain ⟨hri, _⟩ := hv
  obtain ⟨p, cap, rfl⟩ := ri_form hri
  have hawake := Lib.hid (awake12 hS hA)
  replace hri := Lib.hid hri
  by_cases hl : l.length ≤ 200
  · have hl' : decide (200 < l.length) = false := decide_eq_false (by omega)
    have hl2 : ¬ (200 : Int) < (l.length : Int) := by omega
    obtain ⟨hj, hsz⟩ := Sgm.all_join l
    have hok := Sgm.all_cuts l
    have hall := fun W h => all_of12 hA (v := .slice p l.length cap) (l := l) (w := W) rfl (by omega) h
    have hcut := fun W h => cuts_of11 hC (v := .slice p l.length cap) (l := l) (w := W) rfl (by omega) h
    have hcl := Clu.cuts_len Clu.zero l
    obtain ⟨L, hL⟩ : ∃ L, Sgm.allI l = L := ⟨_, rfl⟩
    obtain ⟨C, hCC⟩ : ∃ L, Clu.cutsI Clu.zero l = L := ⟨_, rfl⟩
    rw [hL] at hj hsz hall hok
    rw [hCC] at hok hcut hcl
    have hok2 := ok_at L true C (fun x hx => (hsz x hx).1) hok
    have hLl : L.length ≤ 200 := by
      have := flat_len (L := L) fun x hx => (hsz x hx).1
      rw [hj] at this
      omega
    have hnx := flat_take L
    replace hall := Lib.hid hall
    replace hcut := Lib.hid hcut
    replace hj := Lib.hid hj
    replace hsz := Lib.hid hsz
    replace hok2 := Lib.hid hok2
    replace hnx := Lib.hid hnx
    replace hcl := Lib.hid hcl
    have hll : ((l.length : Int) != (l.length : Int)) = false := by simp
    have hll2 : ((l.length : Int) == (l.length : Int)) = true := by simp
    clear hL hCC hok hS hA hC
    go_enter Try.func5, Try.ntmps5
    go_wp2_with fail
    refine (hawake.out w).mono ?_
    rintro e w0 ⟨rfl, b0⟩
    replace b0 := Lib.hid b0
    go_wp2_with fail
    refine (hall.out _ (ri_below hri.out b0.out)).mono ?_
    rintro e w1 ⟨vc, rfl, tc, q1⟩
    obtain ⟨pc, cc, rfl⟩ := rr_form tc
    have b1 := Lib.hid (below_on b0.out q1)
    replace tc := Lib.hid tc
    clear q1 b0
    go_wp2_with fail
    refine (hcut.out _ (ri_below hri.out b1.out)).mono ?_
    rintro e w3 ⟨vk, rfl, tk, q3⟩
    obtain ⟨pk, ck, rfl⟩ := rt_form tk
    rw [hcl.out] at tk ⊢
    replace tc := Lib.hid (rr_below tc.out q3)
    have b3 := Lib.hid (below_on b1.out q3)
    replace tk := Lib.hid tk
    clear q3 b1
    go_wp2_with fail
    go_loopg [6, 7, 8] L.length (fun g va vi vk wr => ∃ i : Nat, i ≤ L.length ∧ va = .int .i64 ((L.take i).flatten.length : Nat) ∧ vi = .int .i64 i ∧ g = L.length - i ∧ wr = w3)
    case atStart => exact ⟨0, Nat.zero_le _, rfl, rfl, rfl, rfl⟩
    case round =>
      obtain ⟨i, hiL, rfl, rfl, rfl, rfl⟩ := hrel
      by_cases hlt : i < L.length
      · have hlt' : (i : Int) < (L.length : Int) := by omega
        obtain ⟨b, off, rfl, hb, hcell⟩ := rr_at tc.out (by omega)
        obtain ⟨u, c0, r0⟩ := hcell i hlt
        have hs := hsz.out L[i] (List.getElem_mem hlt)
        obtain ⟨g1, g2, g3⟩ := hok2.out i hlt
        rw [hcl.out] at g1
        have hstep := congrArg List.length (hnx.out i hlt)
        rw [List.length_append] at hstep
        obtain ⟨px, cx, rfl⟩ := ri_form r0
        obtain ⟨t0, ht0⟩ : ∃ t, (L.take i).flatten.length = t := ⟨_, rfl⟩
        obtain ⟨n, hn⟩ : ∃ t, L[i].length = t := ⟨_, rfl⟩
        rw [ht0] at g1 g2 g3 hstep ⊢
        rw [hn] at g1 g3 hs hstep c0
        have hn1 := hs.1
        have hn2 := hs.2
        have htl : t0 < l.length := by omega
        obtain ⟨bk, ok, rfl, hbk, hkc⟩ := rt_at tk.out (by rw [hcl.out]; omega)
        have hcl' := hcl.out
        have hck : ∀ k, 1 ≤ k → k < n → wr.cell? ⟨bk, ok + (t0 + k), none⟩ = some (.bool false) := fun k h1 h2 => by
          have h := hkc (t0 + k) (by omega)
          have h3 := g3 k h1 h2
          rw [List.getElem?_eq_getElem (by omega)] at h3
          rwa [Option.some.inj h3] at h
        have c1 := hkc t0 (by omega)
        obtain ⟨f, hf⟩ : ∃ f, C[t0]'(by omega) = f := ⟨_, rfl⟩
        rw [hf] at c1
        rw [List.getElem?_eq_getElem (by omega), hf] at g2
        have hge1 : ¬ (l.length : Int) ≤ (t0 : Int) := by omega
        have hge2 : (t0 : Int) < (l.length : Int) := by omega
        have hcell2 := fun j (h : j < L.length) => hcell j h
        replace hck := Lib.hid hck
        replace hstep := Lib.hid hstep
        clear g3 r0 hkc hs ht0 hn hf
        rcases i with _ | j
        · clear hcell hcell2 g2
          rw [Nat.add_zero] at c0
          go_wp2_with fail
          go_loopg [8] (n - 1) (fun g vk wy => ∃ k : Nat, 1 ≤ k ∧ k ≤ n ∧ vk = .int .i64 k ∧ g = n - k ∧ wy = wr)
          case atStart => exact ⟨1, Nat.le_refl _, hn1, rfl, rfl, rfl⟩
          case round =>
            obtain ⟨k, hk1, hkn, rfl, rfl, rfl⟩ := hrel
            by_cases hkl : k < n
            · have hkl' : (k : Int) < (n : Int) := by omega
              have hge1 : ¬ (l.length : Int) ≤ (t0 : Int) + (k : Int) := by omega
              have hge2 : (t0 : Int) + (k : Int) < (l.length : Int) := by omega
              have ck : wr.cell? ⟨bk, ok + (t0 + k), none⟩ = some (.bool false) := hck.out k hk1 hkl
              go_wp2_with fail
              go_roundg (n - (k + 1))
              case measure => omega
              case rel => exact ⟨k + 1, by omega, by omega, by go_num, rfl, rfl⟩
            · obtain rfl : k = n := by omega
              have hkl' : decide ((k : Int) < (k : Int)) = false := by simp
              go_wp2_with fail
              go_roundg (L.length - (0 + 1))
              case measure => omega
              case rel => exact ⟨0 + 1, by omega, by rw [hstep.out]; go_num, by go_num, rfl, rfl⟩
        · have hj1 : (0 : Int) < (j : Int) + 1 := by omega
          have hj2 : ¬ (j : Int) + 1 ≤ 0 := by omega
          cases f with
          | true =>
            clear hcell hcell2 g2
            go_wp2_with fail
            go_loopg [8] (n - 1) (fun g vk wy => ∃ k : Nat, 1 ≤ k ∧ k ≤ n ∧ vk = .int .i64 k ∧ g = n - k ∧ wy = wr)
            case atStart => exact ⟨1, Nat.le_refl _, hn1, rfl, rfl, rfl⟩
            case round =>
              obtain ⟨k, hk1, hkn, rfl, rfl, rfl⟩ := hrel
              by_cases hkl : k < n
              · have hkl' : (k : Int) < (n : Int) := by omega
                have hge1 : ¬ (l.length : Int) ≤ (t0 : Int) + (k : Int) := by omega
                have hge2 : (t0 : Int) + (k : Int) < (l.length : Int) := by omega
                have ck : wr.cell? ⟨bk, ok + (t0 + k), none⟩ = some (.bool false) := hck.out k hk1 hkl
                go_wp2_with fail
                go_roundg (n - (k + 1))
                case measure => omega
                case rel => exact ⟨k + 1, by omega, by omega, by go_num, rfl, rfl⟩
              · obtain rfl : k = n := by omega
                have hkl' : decide ((k : Int) < (k : Int)) = false := by simp
                go_wp2_with fail
                go_roundg (L.length - ((j + 1) + 1))
                case measure => omega
                case rel => exact ⟨(j + 1) + 1, by omega, by rw [hstep.out]; go_num, by go_num, rfl, rfl⟩
          | false =>
            have h32 : L[j].length = 32 := by
              rcases g2 with g2 | ⟨g2, _⟩ | ⟨j', hj', e, g2⟩
              · simp at g2
              · omega
              · obtain rfl : j = j' := by omega
                exact g2
            obtain ⟨u2, c2, r2⟩ := hcell j (by omega)
            obtain ⟨p2, k2, rfl⟩ := ri_form r2
            rw [h32] at c2
            clear hcell hcell2 g2 r2 h32
            go_wp2_with fail
            go_loopg [8] (n - 1) (fun g vk wy => ∃ k : Nat, 1 ≤ k ∧ k ≤ n ∧ vk = .int .i64 k ∧ g = n - k ∧ wy = wr)
            case atStart => exact ⟨1, Nat.le_refl _, hn1, rfl, rfl, rfl⟩
            case round =>
              obtain ⟨k, hk1, hkn, rfl, rfl, rfl⟩ := hrel
              by_cases hkl : k < n
              · have hkl' : (k : Int) < (n : Int) := by omega
                have hge1 : ¬ (l.length : Int) ≤ (t0 : Int) + (k : Int) := by omega
                have hge2 : (t0 : Int) + (k : Int) < (l.length : Int) := by omega
                have ck : wr.cell? ⟨bk, ok + (t0 + k), none⟩ = some (.bool false) := hck.out k hk1 hkl
                go_wp2_with fail
                go_roundg (n - (k + 1))
                case measure => omega
                case rel => exact ⟨k + 1, by omega, by omega, by go_num, rfl, rfl⟩
              · obtain rfl : k = n := by omega
                have hkl' : decide ((k : Int) < (k : Int)) = false := by simp
                go_wp2_with fail
                go_roundg (L.length - ((j + 1) + 1))
                case measure => omega
                case rel => exact ⟨(j + 1) + 1, by omega, by rw [hstep.out]; go_num, by go_num, rfl, rfl⟩
      · obtain rfl : i = L.length := by omega
        have hlt' : decide ((L.length : Int) < (L.length : Int)) = false := by simp
        rw [List.take_length, hj.out]
        go_wp2_with fail
        go_ret
        exact ⟨rfl, b3.out⟩
  · have hl' : decide (200 < l.length) = true := decide_eq_true (by omega)
    have hl2 : (200 : Int) < (l.length : Int) := by omega
    clear hS hA hC
    go_enter Try.func5, Try.ntmps5
    go_wp2_with fail
    refine (hawake.out _).mono ?_
    rintro e w1 ⟨rfl, q1⟩
    have b1 := Lib.hid q1
    clear q1
    go_wp2_with fail
    go_ret
    exact ⟨rfl, b1.out⟩

end Go.Proofs.Ytbkgjbpnogcjeaa
