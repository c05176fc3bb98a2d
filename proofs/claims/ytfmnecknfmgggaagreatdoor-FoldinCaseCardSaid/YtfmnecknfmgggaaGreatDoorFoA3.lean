/- Layer 10: the code's Left. -/
import Derived.Test.YtfmnecknfmgggaaGreatDoorFoA2
namespace Go.Proofs.YtfmnecknfmgggaaGreatDoor
set_option linter.unusedSimpArgs false
set_option linter.unusedVariables false
open Go.RowKit Go.Lib

theorem left_snoc10 (m : List Int) (k : Nat) (hk : k < m.length) : (m.take k).filter (fun r => !Prp.drpB r) ++ (if Prp.drpB m[k] = true then [] else [m[k]]) = (m.take (k + 1)).filter (fun r => !Prp.drpB r) := by
  rw [List.take_succ_eq_append_getElem hk, List.filter_append]
  congr 1
  cases h : Prp.drpB m[k] <;> simp [h]

/-- some of the values taken: k0 the variable's block, C the literal's, D what is gone over -/
def Took10 (B k0 C k : Nat) (vD : Value) (m : List Int) (B1 : Nat) (w wr : World) : Prop :=
  ∃ vs, Blk wr k0 #[vs] 22 ∧ OwnI B vs ((m.take k).filter (fun r => !Prp.drpB r)) wr ∧ OwnI B1 vD m wr ∧ (vD.ownBlock = none ∨ vD.ownBlock ≠ vs.ownBlock)
    ∧ Blk wr C #[.func (.func 22) #[] #[.pointer (some ⟨k0, 0, none⟩)]] 36 ∧ Below B w wr

theorem func_ne_int : 36 ≠ 3 := by decide

theorem took_next {B k0 C k : Nat} {vD vs : Value} {m : List Int} {B1 : Nat} {w wr w3 : World} (hk : k < m.length) (hB : B ≤ k0) (hC : C ≠ k0)
    (h1 : Blk wr k0 #[vs] 22) (h2 : OwnI B vs ((m.take k).filter (fun r => !Prp.drpB r)) wr) (h3 : OwnI B1 vD m wr) (h4 : vD.ownBlock = none ∨ vD.ownBlock ≠ vs.ownBlock)
    (h5 : Blk wr C #[.func (.func 22) #[] #[.pointer (some ⟨k0, 0, none⟩)]] 36) (h6 : Below B w wr)
    (hp : PutL B k0 ((m.take k).filter (fun r => !Prp.drpB r) ++ if Prp.drpB m[k] = true then [] else [m[k]]) vs wr w3) : Took10 B k0 C (k + 1) vD m B1 w w3 := by
  obtain ⟨vt, g1, g2, g3, g4⟩ := hp
  have hkw := blk_lt h1
  exact ⟨vt, g1, by rw [← left_snoc10 m k hk]; exact g2, only_own g4 h3 int_ne_ints h1 h4, lies_apart h3 h4 g3, only_blk g4 func_ne_int h2 h5 hC, only_below g4 h2 hB (by omega) h6⟩

set_option maxHeartbeats 3200000 in
set_option maxRecDepth 100000 in
theorem left10_any (v : Value) (l : List Int) (w : World) (hl : l.length ≤ 300000) (hv : RI w v l) (hwf : WfI l) : Calls Tryz.prog 9 #[v] w (Makes (Fol.leftI l) w) := by
  have hmf : ∀ (fn : Fn) (first cap : Array Value) (w : World), (Instr.makeFunc fn first cap).run Tryz.prog w = .ok (.func fn first cap) w := fun _ _ _ _ => rfl
  obtain ⟨p, cap, rfl⟩ := ri_form hv
  obtain ⟨n, hn⟩ : ∃ n, n = l.length := ⟨_, rfl⟩
  rw [← hn] at hl
  obtain ⟨X, hX, hmk⟩ := make_empty n (by omega)
  have hml := (Cas.all_len l).2
  have hall := fun W h => all_any (.slice p l.length cap) l W (by omega) h hwf
  unfold Fol.leftI
  obtain ⟨m, hm⟩ : ∃ m, Cas.allI l = m := ⟨_, rfl⟩
  rw [hm] at hall hml ⊢
  rw [← hn] at hml
  have hm1 : m.length ≤ 900000 := by omega
  clear hml
  obtain ⟨F, hF⟩ : ∃ F, m.filter (fun r => !Prp.drpB r) = F := ⟨_, rfl⟩
  rw [hF]
  replace hF := Lib.hid hF
  have o0 := own_empty w X n hX (by unfold maxLen; omega)
  have hb0 := below_new w (.cells X 3)
  have bx2 := blk_new (w.alloc (.cells X 3)) #[.slice (some ⟨w.heap.size, 0, none⟩) 0 n] 22
  have hs0 : (w.alloc (.cells X 3)).heap.size = w.heap.size + 1 := by simp
  rw [hs0] at bx2
  have o2 := ownI_alloc o0 (.cells #[.slice (some ⟨w.heap.size, 0, none⟩) 0 n] 22)
  have hb2 := hb0.alloc (by simp) (.cells #[.slice (some ⟨w.heap.size, 0, none⟩) 0 n] 22)
  have hs2 : ((w.alloc (.cells X 3)).alloc (.cells #[.slice (some ⟨w.heap.size, 0, none⟩) 0 n] 22)).heap.size = w.heap.size + 2 := by simp
  obtain ⟨W, hW⟩ : ∃ W, (w.alloc (.cells X 3)).alloc (.cells #[.slice (some ⟨w.heap.size, 0, none⟩) 0 n] 22) = W := ⟨_, rfl⟩
  rw [hW] at o2 bx2 hb2 hs2
  have hcut := leftCut_any (w.heap.size + 1) W
  have bC := blk_new W #[.func (.func 22) #[] #[.pointer (some ⟨w.heap.size + 1, 0, none⟩)]] 36
  have o3 := ownI_alloc o2 (.cells #[.func (.func 22) #[] #[.pointer (some ⟨w.heap.size + 1, 0, none⟩)]] 36)
  have bx3 := blk_alloc bx2 (.cells #[.func (.func 22) #[] #[.pointer (some ⟨w.heap.size + 1, 0, none⟩)]] 36)
  have hb3 := hb2.alloc hb2.size (.cells #[.func (.func 22) #[] #[.pointer (some ⟨w.heap.size + 1, 0, none⟩)]] 36)
  obtain ⟨V, hV⟩ : ∃ V, W.alloc (.cells #[.func (.func 22) #[] #[.pointer (some ⟨w.heap.size + 1, 0, none⟩)]] 36) = V := ⟨_, rfl⟩
  rw [hV] at bC o3 bx3 hb3
  have hvV := ri_below hv hb3
  have hallV := Lib.hid (hall V hvV)
  rw [hs2] at bC
  rw [hs2] at hcut
  replace hcut := Lib.hid hcut
  replace bC := Lib.hid bC
  replace o3 := Lib.hid o3
  replace bx3 := Lib.hid bx3
  replace hb3 := Lib.hid hb3
  replace hW := Lib.hid hW
  replace hV := Lib.hid hV
  replace hX := Lib.hid hX
  replace hn := Lib.hid hn
  replace hs2 := Lib.hid hs2
  clear hb0 hb2 o0 o2 bx2 hall hm hwf hv hvV hs0
  rw [← hn.out]
  go_enter Tryz.func9, Tryz.ntmps9
  go_upto_region 2 with (fail)
  rw [hW.out]
  go_wp2_with fail
  refine hcut.out.mono ?_
  rintro e w1 ⟨rfl, rfl⟩
  rw [hV.out]
  go_wp2_with fail
  rw [hn.out]
  refine hallV.out.mono ?_
  rintro e w2 ⟨vD, rfl, hD, hb4⟩
  have q2 : Took10 w.heap.size (w.heap.size + 1) (w.heap.size + 2) 0 vD m V.heap.size w w2 :=
    ⟨_, blk_below bx3.out hb4, ownI_below o3.out hb4, hD, own_apart hD o3.out, blk_below bC.out hb4, below_on hb3.out hb4⟩
  obtain ⟨pD, cD, rfl⟩ := ri_form (ri_of_own hD)
  replace q2 := Lib.hid q2
  clear hD hb4
  go_wp2_with fail
  go_loopg [15] m.length (fun g vi wr => ∃ k : Nat, k ≤ m.length ∧ vi = .int .i64 k ∧ g = m.length - k ∧ Took10 w.heap.size (w.heap.size + 1) (w.heap.size + 2) k (.slice pD m.length cD) m V.heap.size w wr)
  case atStart => exact ⟨0, Nat.zero_le _, rfl, rfl, q2.out⟩
  case round =>
    obtain ⟨k, hk, rfl, rfl, vs, h1, h2, h3, h4, h5, h6⟩ := hrel
    by_cases hlt : k < m.length
    · have hlt' : (k : Int) < (m.length : Int) := by omega
      obtain ⟨b, off, rfl, _, hcell⟩ := ri_at (ri_of_own h3) (by omega)
      have hc := hcell k hlt
      have hfl : ((m.take k).filter (fun r => !Prp.drpB r)).length ≤ k := Nat.le_trans (List.length_filter_le _ _) (by rw [List.length_take]; exact Nat.min_le_left _ _)
      have htake := leftTake_any w.heap.size (w.heap.size + 2) (w.heap.size + 1) ((m.take k).filter (fun r => !Prp.drpB r)) m[k] vs wr (by omega) h1 (Nat.le_succ _) h2 h5
      have hnext := fun w3 hp => took_next (w3 := w3) hlt (Nat.le_succ w.heap.size) (by omega) h1 h2 h3 h4 h5 h6 hp
      obtain ⟨x, hx⟩ : ∃ x, m[k] = x := ⟨_, rfl⟩
      rw [hx] at hc htake hnext
      obtain ⟨o, ho⟩ : ∃ o, ((m.take k).filter (fun r => !Prp.drpB r) ++ if Prp.drpB x = true then [] else [x]) = o := ⟨_, rfl⟩
      rw [ho] at htake hnext
      replace htake := Lib.hid htake
      replace hnext := Lib.hid hnext
      clear hcell hx ho h1 h2 h3 h4 h5 h6 hfl
      go_wp2_with fail
      refine htake.out.mono ?_
      rintro e w3 ⟨rfl, hp3⟩
      have q3 := Lib.hid (hnext.out w3 hp3)
      clear hp3
      go_wp2_with fail
      go_roundg (m.length - (k + 1))
      case measure => omega
      case rel => exact ⟨k + 1, by omega, by go_num, rfl, q3.out⟩
    · obtain rfl : k = m.length := by omega
      have hlt' : decide ((m.length : Int) < (m.length : Int)) = false := by simp
      rw [List.take_length, hF.out] at h2
      obtain ⟨ps, cs, rfl⟩ := ri_form (ri_of_own h2)
      have e1 := blk_cell h1 0 _ rfl
      replace h1 := Lib.hid h1
      replace h2 := Lib.hid h2
      replace h6 := Lib.hid h6
      clear h3 h4 h5
      go_wp2_with fail
      go_ret
      exact ⟨_, rfl, h2.out, h6.out⟩

theorem leftC10 : LeftC10 := fun v l w hl hv hw => (left10_any v l w (by omega) hv hw).mono fun _ _ => told_of_makes

end Go.Proofs.YtfmnecknfmgggaaGreatDoor
