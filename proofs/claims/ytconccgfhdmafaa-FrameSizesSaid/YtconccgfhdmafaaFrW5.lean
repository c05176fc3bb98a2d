/- Layer 13: the walk of FrameSizes. -/
import Derived.Test.YtconccgfhdmafaaFrW0
import Derived.Test.YtconccgfhdmafaaDcT
import Derived.Test.YtconccgfhdmafaaC2
import Derived.Test.YtconccgfhdmafaaBasP
import Derived.Deep.DeepCutAuto
import Derived.Deep.LoopGhost
namespace Go.Proofs.Ytconccgfhdmafaa
set_option linter.unusedSimpArgs false
set_option linter.unusedVariables false
open Go.RowKit Go.Lib

theorem mask63_of (a : Int) : ∃ k : Nat, bits .and .i64 a 63 = (k : Int) ∧ k < 64 := by
  refine ⟨(a % 64).toNat, ?_, by omega⟩
  rw [and63]
  omega

theorem Frm.text_sizes {L : List Int} (h : L ≠ []) (hl : L.length ≤ 1000) : putF L = Var.putN (Dec.textL L).length ++ Dec.textL L ∧ (Dec.textL L).length ≤ 4000 := by
  obtain ⟨h1, h2⟩ := putF_some h (by omega)
  have := Dec.textL_len L
  exact ⟨h1, by omega⟩


set_option maxHeartbeats 6400000 in
set_option maxRecDepth 100000 in
theorem frameSizes_walk (hP : PutC13) (hT : TakeC13) (hR : RefC13) (v : Value) (c : List Int) (x : Int) (w : World) (hv : RI w v c ∧ WfI c) (_ : -9223372036854775808 ≤ x ∧ x ≤ 9223372036854775807) :
    Calls Try.prog 7 #[v, .int .i64 x] w fun e w' => e = .returned (.bool true) ∧ Below w.heap.size w w' := by
  obtain ⟨i0, hi, hz0, hz1, hz2⟩ := info_parts info_i
  obtain ⟨hri, _⟩ := hv
  obtain ⟨p, cap, rfl⟩ := ri_form hri
  have hawake := Lib.hid (awake13 hP hT hR)
  replace hri := Lib.hid hri
  by_cases hl : c.length ≤ 100
  · have hl' : decide (100 < c.length) = false := decide_eq_false (by omega)
    have hl2 : ¬ (100 : Int) < (c.length : Int) := by omega
    obtain ⟨k, hk, hk1⟩ := mask63_of x
    obtain ⟨L, hL⟩ : ∃ L, [] ++ c ++ [128512] ++ List.replicate k 8364 = L := ⟨_, rfl⟩
    have hLn : L ≠ [] := by rw [← hL]; simp
    have hLl : L.length ≤ 200 := by rw [← hL]; simp; omega
    obtain ⟨hF, hT4⟩ := Frm.text_sizes hLn (by omega)
    have hput := fun V W h => hP V L W (by omega) h
    have htext := fun V W h => Tx.text_any V L W (by omega) h
    have htk := Frm.take_put hLn (by omega) []
    rw [List.append_nil] at htk
    have hvt := Var.take_put (Dec.textL L).length (by omega) (Dec.textL L)
    rw [← hF] at hvt
    obtain ⟨T, hTT⟩ : ∃ T, Dec.textL L = T := ⟨_, rfl⟩
    obtain ⟨F, hFF⟩ : ∃ F, Frm.putF L = F := ⟨_, rfl⟩
    rw [hTT] at htext htk hvt hF hT4
    rw [hFF] at hput htk hvt hF
    have hsz := fun W => size_any (T.length : Int) W
    rw [putI_yes (by omega)] at hsz
    have hK4 := Var.put_len_le T.length (by omega)
    obtain ⟨K, hK⟩ : ∃ K, (Var.putN T.length).length = K := ⟨_, rfl⟩
    have hFl : F.length = K + T.length := by rw [hF, List.length_append, hK]
    rw [hK] at hvt hsz hK4
    have hTs : (⟨T.toArray⟩ : ByteArray).size = T.length := by simp [ByteArray.size]
    obtain ⟨S, hS⟩ : ∃ S : ByteArray, (⟨T.toArray⟩ : ByteArray) = S := ⟨_, rfl⟩
    rw [hS] at htext hTs
    have htake0 := fun V W h => hT V F W (by omega) h
    rw [htk] at htake0
    have hvtake0 := fun V W (h : RBytes W V F) => take_any V F W h
    rw [hvt] at hvtake0
    unfold ToldB at hput
    unfold Took at htake0
    dsimp only at htake0 hvtake0
    rw [← hTs] at hsz hvtake0
    have f1 : ((F.length : Int) == (S.size : Int) + (K : Int)) = true := beq_iff_eq.2 (by omega)
    have f2 : ((T.length : Int) == (S.size : Int)) = true := beq_iff_eq.2 (by omega)
    have f3 : S.size ≤ 4000 := by omega
    have htake := Lib.hid htake0
    have hvtake := Lib.hid hvtake0
    replace hput := Lib.hid hput
    replace htext := Lib.hid htext
    replace hsz := Lib.hid hsz
    replace hL := Lib.hid hL
    have hcl : (([] : List Int) ++ c ++ [128512]).length ≤ 101 := by simp; omega
    obtain ⟨B, hB⟩ : ∃ B, ([] : List Int) ++ c ++ [128512] = B := ⟨_, rfl⟩
    rw [hB] at hL hcl
    replace hB := Lib.hid hB
    clear hLn hF htk hvt hTT hFF hK hFl hTs hS htake0 hvtake0 hP hT hR
    go_enter Try.func7, Try.ntmps7
    go_wp2_with fail
    refine (hawake.out _).mono ?_
    rintro e w1 ⟨rfl, q1⟩
    have e1 := Lib.hid (ownI_lit w.heap.size w1 [] #[] w1.heap.size 0 rfl q1.size rfl rfl (by unfold maxLen; omega))
    have g1 := Lib.hid (q1.alloc q1.size (.cells #[] 3))
    have s1 := Lib.hid (ri_src (ri_below hri.out g1.out))
    clear q1
    go_upto_region 5 with (at_builtin; refine wpList_append_src rfl _ _ 22 rfl w.heap.size 3 i0 (.int .i64 0) 8 Try.underlying22 hi hz0 hz1 hz2 rfl _ _ _ rfl e1.out _ _ rfl s1.out (oneCellI _) (by simp only [List.length_map, List.length_append, List.length_take, List.length_drop, List.length_cons, List.length_nil, List.length_singleton]; unfold maxLen; omega) (by simp only [List.length_map, List.length_append, List.length_take, List.length_drop, List.length_cons, List.length_nil, List.length_singleton]; omega) g1.out.size ?_; intro v2 w2 ho2 hg2; have o2 := Lib.hid (ownI_of_row (l := [] ++ c) ho2 (by (try simp); try omega) (by (try simp); try omega)); have b2 := Lib.hid (below_row g1.out hg2 g1.out.size e1.out (Nat.le_refl _)); clear ho2 hg2)
    clear e1 g1 s1
    have oo := Lib.hid (ownI_alloc o2.out (.cells #[.int .i64 128512] 3))
    have bb := Lib.hid (b2.out.alloc b2.out.size (.cells #[.int .i64 128512] 3))
    have ss := Lib.hid (ri_src (ri_of_own (ownI_lit w.heap.size w2 [128512] #[.int .i64 128512] w2.heap.size 1 rfl b2.out.size rfl rfl (by unfold maxLen; omega))))
    clear o2 b2
    go_upto_region 6 with (at_builtin; refine wpList_append_src rfl _ _ 22 rfl w.heap.size 3 i0 (.int .i64 0) 8 Try.underlying22 hi hz0 hz1 hz2 rfl _ _ _ rfl oo.out _ _ rfl ss.out (oneCellI _) (by simp only [List.length_map, List.length_append, List.length_take, List.length_drop, List.length_cons, List.length_nil, List.length_singleton]; unfold maxLen; omega) (by simp only [List.length_map, List.length_append, List.length_take, List.length_drop, List.length_cons, List.length_nil, List.length_singleton]; omega) bb.out.size ?_; intro v3 w3 ho3 hg3; have o3 := Lib.hid (ownI_of_row (l := ([] ++ c) ++ [128512]) ho3 (by (try simp); try omega) (by (try simp); try omega)); have b3 := Lib.hid (below_row bb.out hg3 bb.out.size oo.out (Nat.le_refl _)); clear ho3 hg3)
    clear oo bb ss
    rw [hB.out] at o3
    go_wp2_with fail
    go_loopg [6, 7] k (fun g vl vi wr => ∃ i : Nat, i ≤ k ∧ vi = .int .i64 i ∧ g = k - i ∧ OwnI w.heap.size vl (B ++ List.replicate i 8364) wr ∧ Below w.heap.size w wr)
    case atStart => exact ⟨0, Nat.zero_le _, rfl, rfl, by simpa using o3.out, b3.out⟩
    case round =>
      obtain ⟨i, hik, rfl, rfl, hown, hbel⟩ := hrel
      clear o3 b3
      by_cases hlt : i < k
      · have hlt' : (i : Int) < (k : Int) := by omega
        have e1 := Lib.hid (show B ++ List.replicate (i + 1) 8364 = (B ++ List.replicate i 8364) ++ [8364] by rw [List.replicate_succ', ← List.append_assoc])
        have hl1 : (B ++ List.replicate i (8364 : Int)).length ≤ 200 := by simp; omega
        obtain ⟨A, hA⟩ : ∃ A, B ++ List.replicate i (8364 : Int) = A := ⟨_, rfl⟩
        rw [hA] at hown e1 hl1
        replace hown := Lib.hid hown
        replace hbel := Lib.hid hbel
        clear hA
        have oo := Lib.hid (ownI_alloc hown.out (.cells #[.int .i64 8364] 3))
        have bb := Lib.hid (hbel.out.alloc hbel.out.size (.cells #[.int .i64 8364] 3))
        have ss := Lib.hid (ri_src (ri_of_own (ownI_lit w.heap.size wr [8364] #[.int .i64 8364] wr.heap.size 1 rfl hbel.out.size rfl rfl (by unfold maxLen; omega))))
        clear hown hbel
        go_wp2_with (at_builtin; refine wpList_append_src rfl _ _ 22 rfl w.heap.size 3 i0 (.int .i64 0) 8 Try.underlying22 hi hz0 hz1 hz2 rfl _ _ _ rfl oo.out _ _ rfl ss.out (oneCellI _) (by simp only [List.length_map, List.length_append, List.length_take, List.length_drop, List.length_cons, List.length_nil, List.length_singleton]; unfold maxLen; omega) (by simp only [List.length_map, List.length_append, List.length_take, List.length_drop, List.length_cons, List.length_nil, List.length_singleton]; omega) bb.out.size ?_; intro v5 w5 ho5 hg5; have o5 := Lib.hid (ownI_of_row (l := A ++ [8364]) ho5 (by (try simp); try omega) (by (try simp); try omega)); have b5 := Lib.hid (below_row bb.out hg5 bb.out.size oo.out (Nat.le_refl _)); clear ho5 hg5)
        clear oo bb ss
        go_roundg (k - (i + 1))
        case measure => omega
        case rel => exact ⟨i + 1, by omega, by go_num, rfl, by rw [e1.out]; exact o5.out, b5.out⟩
      · obtain rfl : i = k := by omega
        rw [hL.out] at hown
        obtain ⟨pl, cl, rfl⟩ := ri_form (ri_of_own hown)
        have hrl := Lib.hid (ri_of_own hown)
        replace hbel := Lib.hid hbel
        have hlt' : decide ((i : Int) < (i : Int)) = false := by simp
        clear hown
        go_wp2_with fail
        refine (hput.out _ _ hrl.out).mono ?_
        rintro e w2 ⟨v_f, rfl, f, q2⟩
        obtain ⟨pf, cf, rfl⟩ := bytes_form f
        replace f := Lib.hid f
        replace hrl := Lib.hid (ri_below hrl.out q2)
        replace hbel := Lib.hid (below_on hbel.out q2)
        clear q2
        go_wp2_with fail
        refine (htext.out _ _ hrl.out).mono ?_
        rintro e w3 ⟨rfl, q3⟩
        replace f := Lib.hid (bytes_below f.out q3)
        replace hbel := Lib.hid (below_on hbel.out q3)
        clear q3 hrl
        go_wp2_with fail
        refine (hvtake.out _ _ f.out).mono ?_
        rintro e w4 ⟨rfl, rfl⟩
        go_wp2_with fail
        refine (htake.out _ _ f.out).mono ?_
        rintro e w5 ⟨v_t, rfl, t, q5⟩
        obtain ⟨pt, ct, rfl⟩ := bytes_form t
        replace hbel := Lib.hid (below_on hbel.out q5)
        clear q5 t f
        go_wp2_with fail
        refine (hsz.out _).mono ?_
        rintro e w6 ⟨rfl, rfl⟩
        go_wp2_with fail
        refine (hsz.out _).mono ?_
        rintro e w6 ⟨rfl, rfl⟩
        go_wp2_with fail
        go_ret
        exact ⟨rfl, hbel.out⟩
  · have hl' : decide (100 < c.length) = true := decide_eq_true (by omega)
    have hl2 : (100 : Int) < (c.length : Int) := by omega
    clear hP hT hR
    go_enter Try.func7, Try.ntmps7
    go_wp2_with fail
    refine (hawake.out _).mono ?_
    rintro e w1 ⟨rfl, q1⟩
    go_wp2_with fail
    go_ret
    exact ⟨rfl, q1⟩

end Go.Proofs.Ytconccgfhdmafaa
