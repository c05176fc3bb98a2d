/- Texts that stand together. -/
import Derived.Test.YtnlnkjaapdefiaaGreatDoorMatP
import Derived.Test.YtnlnkjaapdefiaaGreatDoorBasP
import Derived.Test.YtnlnkjaapdefiaaGreatDoorKP
import Derived.Test.YtnlnkjaapdefiaaGreatDoorCnP
import Derived.Test.YtnlnkjaapdefiaaGreatDoorPrA4
import Derived.Test.YtnlnkjaapdefiaaGreatDoorCaP
import Derived.Test.YtnlnkjaapdefiaaGreatDoorNoQ
/- Layer 10: a slice of numbers in a variable that a literal captures; Left's literal. -/
namespace Go.Proofs.YtnlnkjaapdefiaaGreatDoor
set_option linter.unusedSimpArgs false
set_option linter.unusedVariables false
open Go.RowKit Go.Lib
/-- an own row of numbers is no block of another type -/
theorem own_offT {B b : Nat} {v : Value} {l : List Int} {w : World} {cs : Array Value} {T : TypeId} (hT : T ≠ 3) (h : OwnI B v l w) (hb : Blk w b cs T) : v.ownBlock ≠ some b := by
  intro e
  rcases h.2 with ⟨rfl, _⟩ | ⟨g, cap, cur, rfl, _, hg, _⟩
  · cases e
  · cases e
    unfold Blk at hb
    rw [hb] at hg
    injection hg with hg
    injection hg with _ hg
    exact hT hg
/-- between two worlds only block k and the row of v were written -/
def Only (k : Nat) (v : Value) (w w' : World) : Prop := Below 0 w w' ∧ ∀ j, j < w.heap.size → j ≠ k → some j ≠ v.ownBlock → w'.heap[j]? = w.heap[j]?
theorem only_below {B k : Nat} {v : Value} {l : List Int} {w0 w w1 : World} (h : Only k v w w1) (ho : OwnI B v l w) (hk : B ≤ k) (hB : B ≤ w.heap.size) (hb : Below B w0 w) : Below B w0 w1 :=
  hb.trans ⟨h.1.os, h.1.tape, h.1.output, h.1.size, fun j hj => h.2 j (by omega) (by omega) (own_not ho hj)⟩
theorem only_blk {B k j : Nat} {v : Value} {l : List Int} {cs : Array Value} {T : TypeId} {w w1 : World} (h : Only k v w w1) (hT : T ≠ 3) (ho : OwnI B v l w) (hb : Blk w j cs T) (hj : j ≠ k) : Blk w1 j cs T := by
  unfold Blk
  rw [h.2 j (blk_lt hb) hj (fun e => own_offT hT ho hb e.symm)]
  exact hb
theorem only_own {B k : Nat} {u v : Value} {m : List Int} {cs : Array Value} {T : TypeId} {w w1 : World} (h : Only k v w w1) (hu : OwnI B u m w) (hT : T ≠ 3) (hk : Blk w k cs T) (hne : u.ownBlock = none ∨ u.ownBlock ≠ v.ownBlock) : OwnI B u m w1 := by
  refine ⟨hu.1, ?_⟩
  have hoff := own_offT hT hu hk
  rcases hu.2 with hn | ⟨g, cap, cur, rfl, hg, hh, r⟩
  · exact .inl hn
  · refine .inr ⟨g, cap, cur, rfl, hg, ?_, r⟩
    rw [h.2 g (Array.getElem?_eq_some_iff.1 hh).1 (fun e => hoff (by rw [← e]; rfl)) (by simpa [Value.ownBlock] using hne)]
    exact hh
/-- what the literal of Left leaves: the variable holds one number more -/
def PutL (B k : Nat) (l : List Int) (vs : Value) (w w' : World) : Prop := ∃ vt, Blk w' k #[vt] 25 ∧ OwnI B vt l w' ∧ Lies vt vs w ∧ Only k vs w w'
theorem int_ne_ints : 25 ≠ 3 := by decide
set_option maxHeartbeats 1600000 in
set_option maxRecDepth 100000 in
theorem leftPut_any (B k : Nat) (l : List Int) (r : Int) (vs : Value) (w : World) (hl : l.length ≤ 2000000) (hbox : Blk w k #[vs] 25) (hk : B ≤ k) (ho : OwnI B vs l w) :
    Calls Tryz.prog 87 #[.int .i64 r, .pointer (some ⟨k, 0, none⟩)] w fun e w' => e = .returned (.tuple #[]) ∧ PutL B k (l ++ [r]) vs w w' := by
  obtain ⟨i0, hi, hz0, hz1, hz2⟩ := info_parts info_i
  have b0 := blk_cell hbox 0 _ rfl
  have hkw := blk_lt hbox
  have hBw : B ≤ w.heap.size := by omega
  have o2 := Lib.hid (ownI_alloc ho (.cells #[.int .i64 r] 3))
  have x2 := Lib.hid (blk_alloc hbox (.cells #[.int .i64 r] 3))
  have s2 := Lib.hid (ri_src (ri_of_own (ownI_lit B w [r] #[.int .i64 r] w.heap.size 1 rfl hBw rfl rfl (by unfold maxLen; omega))))
  have hsz := Lib.hid (show B ≤ (w.alloc (.cells #[.int .i64 r] 3)).heap.size by simp; omega)
  obtain ⟨m, hm⟩ : ∃ m, l ++ [r] = m := ⟨_, rfl⟩
  rw [hm]
  replace hm := Lib.hid hm
  replace hbox := Lib.hid hbox
  replace ho := Lib.hid ho
  obtain ⟨ps, cs, rfl⟩ := ri_form (ri_of_own ho.out)
  go_enter Tryz.func87, Tryz.ntmps87
  go_wp2_with (at_builtin; refine wpList_append_src3 rfl _ _ 25 rfl B 3 i0 (.int .i64 0) 8 Tryz.underlying25 hi hz0 hz1 hz2 rfl _ _ _ rfl o2.out _ _ rfl s2.out (oneCellI [r]) (by simp; unfold maxLen; omega) (by simp; omega) hsz.out ?_; intro v5 w5 hown5 hgrow5 hlies5; have o5 := Lib.hid (ownI_of_row (l := l ++ [r]) hown5 (by simp) (by simp)); rw [hm.out] at o5; obtain ⟨p5, q5, rfl⟩ := ri_form (ri_of_own o5.out); have x5 := Lib.hid (blk_grown x2.out hgrow5 (fun e => own_offT int_ne_ints o2.out x2.out e.symm)); have c5 := blk_cell x5.out 0 _ rfl; have f5 := blk_thaw x5.out 0; replace hgrow5 := Lib.hid hgrow5; replace hlies5 := Lib.hid hlies5; clear hown5)
  go_wp2_with fail
  go_end0
  refine ⟨rfl, .slice p5 m.length q5, blk_set x5.out, ownI_set o5.out _ _ (.inr (own_offT int_ne_ints o5.out x5.out)), ?_, ?_, ?_⟩
  · rcases hlies5.out with h | ⟨j, h1, h2⟩
    · exact .inl h
    · exact .inr ⟨j, h1, by simp at h2; omega⟩
  · have hg := hgrow5.out
    exact ⟨hg.os, hg.tape, hg.output, by have := hg.size; simp at this ⊢; omega, fun j hj => by omega⟩
  · intro j hj hjk hjv
    rw [Below.heap_setCell _ _ _ _ (by exact hjk), hgrow5.out.block j (by simp; omega) hjv, Below.heap_alloc _ _ _ hj]
end Go.Proofs.YtnlnkjaapdefiaaGreatDoor

/- Layer 10: cut, its literal over Left's, Left. -/
namespace Go.Proofs.YtnlnkjaapdefiaaGreatDoor
set_option linter.unusedSimpArgs false
set_option linter.unusedVariables false
open Go.RowKit Go.Lib
theorem only_after {k : Nat} {v : Value} {w w2 w3 : World} (hb : Below w.heap.size w w2) (h : Only k v w2 w3) : Only k v w w3 :=
  ⟨(hb.mono (Nat.zero_le _)).trans h.1, fun j hj h1 h2 => (h.2 j (Nat.lt_of_lt_of_le hj hb.size) h1 h2).trans (hb.block j hj)⟩
theorem lies_after {v v' : Value} {w w2 : World} (hb : Below w.heap.size w w2) (h : Lies v' v w2) : Lies v' v w :=
  h.imp id fun ⟨j, h1, h2⟩ => ⟨j, h1, Nat.le_trans hb.size h2⟩
theorem only_self {k : Nat} {v : Value} {w w2 : World} (hb : Below w.heap.size w w2) : Only k v w w2 := ⟨hb.mono (Nat.zero_le _), fun j hj _ _ => hb.block j hj⟩
theorem putL_after {B k : Nat} {l : List Int} {vs : Value} {w w2 w3 : World} (hb : Below w.heap.size w w2) (h : PutL B k l vs w2 w3) : PutL B k l vs w w3 := by
  obtain ⟨vt, h1, h2, h3, h4⟩ := h
  exact ⟨vt, h1, h2, lies_after hb h3, only_after hb h4⟩
set_option maxHeartbeats 1600000 in
set_option maxRecDepth 100000 in
theorem leftCut_any (k : Nat) (w : World) : Calls Tryz.prog 86 #[.func (.func 87) #[] #[.pointer (some ⟨k, 0, none⟩)]] w fun e w' =>
    e = .returned (.func (.func 126) #[] #[.pointer (some ⟨w.heap.size, 0, none⟩)]) ∧ w' = w.alloc (.cells #[.func (.func 87) #[] #[.pointer (some ⟨k, 0, none⟩)]] 72) := by
  have hmf : ∀ (fn : Fn) (first cap : Array Value) (w : World), (Instr.makeFunc fn first cap).run Tryz.prog w = .ok (.func fn first cap) w := fun _ _ _ _ => rfl
  go_enter Tryz.func86, Tryz.ntmps86
  go_wp2_with fail
  go_ret
  exact ⟨rfl, rfl⟩
set_option maxHeartbeats 1600000 in
set_option maxRecDepth 100000 in
theorem leftTake_any (B C k : Nat) (l : List Int) (r : Int) (vs : Value) (w : World) (hl : l.length ≤ 2000000) (hbox : Blk w k #[vs] 25) (hk : B ≤ k) (ho : OwnI B vs l w)
    (hC : Blk w C #[.func (.func 87) #[] #[.pointer (some ⟨k, 0, none⟩)]] 72) :
    Calls Tryz.prog 126 #[.int .i64 r, .pointer (some ⟨C, 0, none⟩)] w fun e w' => e = .returned (.tuple #[]) ∧ PutL B k (l ++ if Prp.drpB r = true then [] else [r]) vs w w' := by
  have hdx := drops_any r
  cases hdb : Prp.drpB r with
  | true =>
    rw [hdb] at hdx
    rw [if_pos rfl, List.append_nil]
    replace hdx := Lib.hid hdx
    replace hbox := Lib.hid hbox
    replace ho := Lib.hid ho
    replace hC := Lib.hid hC
    clear hdb
    go_enter Tryz.func126, Tryz.ntmps126
    go_wp2_with fail
    refine (hdx.out _).mono ?_
    rintro e w2 ⟨rfl, hb2⟩
    replace hb2 := Lib.hid hb2
    go_wp2_with fail
    go_end0
    exact ⟨rfl, vs, blk_below hbox.out hb2.out, ownI_below ho.out hb2.out, .inl rfl, only_self hb2.out⟩
  | false =>
    rw [hdb] at hdx
    rw [if_neg (by simp)]
    replace hdx := Lib.hid hdx
    replace hbox := Lib.hid hbox
    replace ho := Lib.hid ho
    replace hC := Lib.hid hC
    clear hdb
    go_enter Tryz.func126, Tryz.ntmps126
    go_wp2_with fail
    refine (hdx.out _).mono ?_
    rintro e w2 ⟨rfl, hb2⟩
    have c2 := blk_cell (blk_below hC.out hb2) 0 _ rfl
    have hput := Lib.hid (leftPut_any B k l r vs w2 hl (blk_below hbox.out hb2) hk (ownI_below ho.out hb2))
    replace hb2 := Lib.hid hb2
    go_wp2_with fail
    refine hput.out.mono ?_
    rintro e w3 ⟨rfl, hp3⟩
    replace hp3 := Lib.hid hp3
    go_wp2_with fail
    go_end0
    exact ⟨rfl, putL_after hb2.out hp3.out⟩
end Go.Proofs.YtnlnkjaapdefiaaGreatDoor

/- Layer 10: the code's Left. -/
namespace Go.Proofs.YtnlnkjaapdefiaaGreatDoor
set_option linter.unusedSimpArgs false
set_option linter.unusedVariables false
open Go.RowKit Go.Lib
theorem left_snoc10 (m : List Int) (k : Nat) (hk : k < m.length) : (m.take k).filter (fun r => !Prp.drpB r) ++ (if Prp.drpB m[k] = true then [] else [m[k]]) = (m.take (k + 1)).filter (fun r => !Prp.drpB r) := by
  rw [List.take_succ_eq_append_getElem hk, List.filter_append]
  congr 1
  cases h : Prp.drpB m[k] <;> simp [h]
/-- some of the values taken: k0 the variable's block, C the literal's, D what is gone over -/
def Took10 (B k0 C k : Nat) (vD : Value) (m : List Int) (B1 : Nat) (w wr : World) : Prop :=
  ∃ vs, Blk wr k0 #[vs] 25 ∧ OwnI B vs ((m.take k).filter (fun r => !Prp.drpB r)) wr ∧ OwnI B1 vD m wr ∧ (vD.ownBlock = none ∨ vD.ownBlock ≠ vs.ownBlock)
    ∧ Blk wr C #[.func (.func 87) #[] #[.pointer (some ⟨k0, 0, none⟩)]] 72 ∧ Below B w wr
theorem func_ne_int : 72 ≠ 3 := by decide
theorem took_next {B k0 C k : Nat} {vD vs : Value} {m : List Int} {B1 : Nat} {w wr w3 : World} (hk : k < m.length) (hB : B ≤ k0) (hC : C ≠ k0)
    (h1 : Blk wr k0 #[vs] 25) (h2 : OwnI B vs ((m.take k).filter (fun r => !Prp.drpB r)) wr) (h3 : OwnI B1 vD m wr) (h4 : vD.ownBlock = none ∨ vD.ownBlock ≠ vs.ownBlock)
    (h5 : Blk wr C #[.func (.func 87) #[] #[.pointer (some ⟨k0, 0, none⟩)]] 72) (h6 : Below B w wr)
    (hp : PutL B k0 ((m.take k).filter (fun r => !Prp.drpB r) ++ if Prp.drpB m[k] = true then [] else [m[k]]) vs wr w3) : Took10 B k0 C (k + 1) vD m B1 w w3 := by
  obtain ⟨vt, g1, g2, g3, g4⟩ := hp
  have hkw := blk_lt h1
  exact ⟨vt, g1, by rw [← left_snoc10 m k hk]; exact g2, only_own g4 h3 int_ne_ints h1 h4, lies_apart h3 h4 g3, only_blk g4 func_ne_int h2 h5 hC, only_below g4 h2 hB (by omega) h6⟩
set_option maxHeartbeats 3200000 in
set_option maxRecDepth 100000 in
theorem left10_any (v : Value) (l : List Int) (w : World) (hl : l.length ≤ 300000) (hv : RI w v l) (hwf : WfI l) : Calls Tryz.prog 54 #[v] w (Makes (Fol.leftI l) w) := by
  have hmf : ∀ (fn : Fn) (first cap : Array Value) (w : World), (Instr.makeFunc fn first cap).run Tryz.prog w = .ok (.func fn first cap) w := fun _ _ _ _ => rfl
  obtain ⟨p, cap, rfl⟩ := ri_form hv
  obtain ⟨n, hn⟩ : ∃ n, n = l.length := ⟨_, rfl⟩
  rw [← hn] at hl
  obtain ⟨X, hX, hmk⟩ := make_empty n (by omega)
  have hml := (Cas.all_len l).2
  have hall := fun W h => all_any (.slice p l.length cap) l W (by omega) h hwf
  unfold Fol.leftI
  obtain ⟨m, hm⟩ : ∃ m, Cas.allI l = m := ⟨_, rfl⟩
  rw [hm] at hall hml ⊢
  rw [← hn] at hml
  have hm1 : m.length ≤ 900000 := by omega
  clear hml
  obtain ⟨F, hF⟩ : ∃ F, m.filter (fun r => !Prp.drpB r) = F := ⟨_, rfl⟩
  rw [hF]
  replace hF := Lib.hid hF
  have o0 := own_empty w X n hX (by unfold maxLen; omega)
  have hb0 := below_new w (.cells X 3)
  have bx2 := blk_new (w.alloc (.cells X 3)) #[.slice (some ⟨w.heap.size, 0, none⟩) 0 n] 25
  have hs0 : (w.alloc (.cells X 3)).heap.size = w.heap.size + 1 := by simp
  rw [hs0] at bx2
  have o2 := ownI_alloc o0 (.cells #[.slice (some ⟨w.heap.size, 0, none⟩) 0 n] 25)
  have hb2 := hb0.alloc (by simp) (.cells #[.slice (some ⟨w.heap.size, 0, none⟩) 0 n] 25)
  have hs2 : ((w.alloc (.cells X 3)).alloc (.cells #[.slice (some ⟨w.heap.size, 0, none⟩) 0 n] 25)).heap.size = w.heap.size + 2 := by simp
  obtain ⟨W, hW⟩ : ∃ W, (w.alloc (.cells X 3)).alloc (.cells #[.slice (some ⟨w.heap.size, 0, none⟩) 0 n] 25) = W := ⟨_, rfl⟩
  rw [hW] at o2 bx2 hb2 hs2
  have hcut := leftCut_any (w.heap.size + 1) W
  have bC := blk_new W #[.func (.func 87) #[] #[.pointer (some ⟨w.heap.size + 1, 0, none⟩)]] 72
  have o3 := ownI_alloc o2 (.cells #[.func (.func 87) #[] #[.pointer (some ⟨w.heap.size + 1, 0, none⟩)]] 72)
  have bx3 := blk_alloc bx2 (.cells #[.func (.func 87) #[] #[.pointer (some ⟨w.heap.size + 1, 0, none⟩)]] 72)
  have hb3 := hb2.alloc hb2.size (.cells #[.func (.func 87) #[] #[.pointer (some ⟨w.heap.size + 1, 0, none⟩)]] 72)
  obtain ⟨V, hV⟩ : ∃ V, W.alloc (.cells #[.func (.func 87) #[] #[.pointer (some ⟨w.heap.size + 1, 0, none⟩)]] 72) = V := ⟨_, rfl⟩
  rw [hV] at bC o3 bx3 hb3
  have hvV := ri_below hv hb3
  have hallV := Lib.hid (hall V hvV)
  rw [hs2] at bC
  rw [hs2] at hcut
  replace hcut := Lib.hid hcut
  replace bC := Lib.hid bC
  replace o3 := Lib.hid o3
  replace bx3 := Lib.hid bx3
  replace hb3 := Lib.hid hb3
  replace hW := Lib.hid hW
  replace hV := Lib.hid hV
  replace hX := Lib.hid hX
  replace hn := Lib.hid hn
  replace hs2 := Lib.hid hs2
  clear hb0 hb2 o0 o2 bx2 hall hm hwf hv hvV hs0
  rw [← hn.out]
  go_enter Tryz.func54, Tryz.ntmps54
  go_upto_region 2 with (fail)
  rw [hW.out]
  go_wp2_with fail
  refine hcut.out.mono ?_
  rintro e w1 ⟨rfl, rfl⟩
  rw [hV.out]
  go_wp2_with fail
  rw [hn.out]
  refine hallV.out.mono ?_
  rintro e w2 ⟨vD, rfl, hD, hb4⟩
  have q2 : Took10 w.heap.size (w.heap.size + 1) (w.heap.size + 2) 0 vD m V.heap.size w w2 :=
    ⟨_, blk_below bx3.out hb4, ownI_below o3.out hb4, hD, own_apart hD o3.out, blk_below bC.out hb4, below_on hb3.out hb4⟩
  obtain ⟨pD, cD, rfl⟩ := ri_form (ri_of_own hD)
  replace q2 := Lib.hid q2
  clear hD hb4
  go_wp2_with fail
  go_loopg [15] m.length (fun g vi wr => ∃ k : Nat, k ≤ m.length ∧ vi = .int .i64 k ∧ g = m.length - k ∧ Took10 w.heap.size (w.heap.size + 1) (w.heap.size + 2) k (.slice pD m.length cD) m V.heap.size w wr)
  case atStart => exact ⟨0, Nat.zero_le _, rfl, rfl, q2.out⟩
  case round =>
    obtain ⟨k, hk, rfl, rfl, vs, h1, h2, h3, h4, h5, h6⟩ := hrel
    by_cases hlt : k < m.length
    · have hlt' : (k : Int) < (m.length : Int) := by omega
      obtain ⟨b, off, rfl, _, hcell⟩ := ri_at (ri_of_own h3) (by omega)
      have hc := hcell k hlt
      have hfl : ((m.take k).filter (fun r => !Prp.drpB r)).length ≤ k := Nat.le_trans (List.length_filter_le _ _) (by rw [List.length_take]; exact Nat.min_le_left _ _)
      have htake := leftTake_any w.heap.size (w.heap.size + 2) (w.heap.size + 1) ((m.take k).filter (fun r => !Prp.drpB r)) m[k] vs wr (by omega) h1 (Nat.le_succ _) h2 h5
      have hnext := fun w3 hp => took_next (w3 := w3) hlt (Nat.le_succ w.heap.size) (by omega) h1 h2 h3 h4 h5 h6 hp
      obtain ⟨x, hx⟩ : ∃ x, m[k] = x := ⟨_, rfl⟩
      rw [hx] at hc htake hnext
      obtain ⟨o, ho⟩ : ∃ o, ((m.take k).filter (fun r => !Prp.drpB r) ++ if Prp.drpB x = true then [] else [x]) = o := ⟨_, rfl⟩
      rw [ho] at htake hnext
      replace htake := Lib.hid htake
      replace hnext := Lib.hid hnext
      clear hcell hx ho h1 h2 h3 h4 h5 h6 hfl
      go_wp2_with fail
      refine htake.out.mono ?_
      rintro e w3 ⟨rfl, hp3⟩
      have q3 := Lib.hid (hnext.out w3 hp3)
      clear hp3
      go_wp2_with fail
      go_roundg (m.length - (k + 1))
      case measure => omega
      case rel => exact ⟨k + 1, by omega, by go_num, rfl, q3.out⟩
    · obtain rfl : k = m.length := by omega
      have hlt' : decide ((m.length : Int) < (m.length : Int)) = false := by simp
      rw [List.take_length, hF.out] at h2
      obtain ⟨ps, cs, rfl⟩ := ri_form (ri_of_own h2)
      have e1 := blk_cell h1 0 _ rfl
      replace h1 := Lib.hid h1
      replace h2 := Lib.hid h2
      replace h6 := Lib.hid h6
      clear h3 h4 h5
      go_wp2_with fail
      go_ret
      exact ⟨_, rfl, h2.out, h6.out⟩
end Go.Proofs.YtnlnkjaapdefiaaGreatDoor

/- Layer 10: the code's All. -/
namespace Go.Proofs.YtnlnkjaapdefiaaGreatDoor
set_option linter.unusedSimpArgs false
set_option linter.unusedVariables false
open Go.RowKit Go.Lib
set_option maxHeartbeats 1600000 in
set_option maxRecDepth 100000 in
theorem all10_wide (v : Value) (l : List Int) (w : World) (hl : l.length ≤ 300000) (h2 : (Fol.leftI l).length ≤ 40000) (hv : RI w v l) (hw : WfI l) : Calls Tryz.prog 29 #[v] w (Told (Fol.allI l) w) := by
  have h1 := left10_any v l w (by omega) hv hw
  rw [show Fol.allI l = Nor.allI (Fol.leftI l) from (Fol.all_form l).trans (Nor.all_form _).symm]
  obtain ⟨m, hm⟩ : ∃ m, Fol.leftI l = m := ⟨_, rfl⟩
  rw [hm] at h1 h2 ⊢
  have h3 := fun (v : Value) (W : World) h => all9_wide v m W (by omega) h
  obtain ⟨A, hA⟩ : ∃ A, Nor.allI m = A := ⟨_, rfl⟩
  rw [hA] at h3 ⊢
  replace h1 := Lib.hid h1
  replace h3 := Lib.hid h3
  clear hm hA h2
  go_enter Tryz.func29, Tryz.ntmps29
  go_wp2_with fail
  refine h1.out.mono ?_
  rintro e w1 ⟨v1, rfl, ho1, hb1⟩
  have g3 := Lib.hid (h3.out v1 w1 (ri_of_own ho1))
  obtain ⟨p1, c1, rfl⟩ := ri_form (ri_of_own ho1)
  replace hb1 := Lib.hid hb1
  clear ho1
  go_wp2_with fail
  refine g3.out.mono ?_
  rintro e w2 ⟨v2, rfl, hr2, hb2⟩
  replace hr2 := Lib.hid hr2
  replace hb2 := Lib.hid (below_on hb1.out hb2)
  obtain ⟨p2, c2, rfl⟩ := ri_form hr2.out
  go_wp2_with fail
  go_ret
  exact ⟨_, rfl, hr2.out, hb2.out⟩
end Go.Proofs.YtnlnkjaapdefiaaGreatDoor

