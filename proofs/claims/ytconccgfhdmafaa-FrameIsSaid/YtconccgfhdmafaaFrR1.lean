/- Layer 13: the document's Put, Refusal, Take. -/
import Derived.Test.YtconccgfhdmafaaFrO
import Derived.Test.YtconccgfhdmafaaR1
import Derived.Test.YtconccgfhdmafaaDcR
import Derived.Test.YtconccgfhdmafaaBasP
import Derived.OwnWalk
namespace Go.Proofs.Ytconccgfhdmafaa
set_option linter.unusedSimpArgs false
set_option linter.unusedVariables false
open Go.RowKit Go.Lib

set_option maxHeartbeats 3200000 in
set_option maxRecDepth 100000 in
theorem rput13_any (v : Value) (c : List Int) (w : World) (hl : c.length ≤ 1000) (hv : RI w v c) : Calls Try.prog 14 #[v] w (ToldB (Frm.putF c) w) := by
  obtain ⟨i0, hi, hz0, hz1, hz2⟩ := info_parts info_byte
  have htext := Lib.hid (Tx.rtext_any v c w hl hv)
  obtain ⟨p, cap, rfl⟩ := ri_form hv
  have hlen := Dec.textL_len c
  by_cases h0 : c.length = 0
  · have hp : Frm.putF c = [] := by unfold Frm.putF; rw [if_pos (.inl (List.eq_nil_of_length_eq_zero h0))]
    rw [hp]
    have h1 : ((c.length : Int) == 0) = true := beq_iff_eq.2 (by omega)
    replace h0 := Lib.hid h0
    go_enter Try.func14, Try.ntmps14
    go_wp2_with fail
    refine htext.out.mono ?_
    rintro e w1 ⟨rfl, q1⟩
    replace q1 := Lib.hid q1
    go_wp2_with fail
    go_ret
    exact ⟨_, rfl, .inl ⟨rfl, rfl⟩, q1.out⟩
  · have hne : c ≠ [] := fun e => h0 (by rw [e]; rfl)
    obtain ⟨hp, hbig⟩ := Frm.putF_some hne (by omega)
    rw [hp]
    unfold Frm.frameOf
    unfold Frm.big at hbig
    have h1 : ((c.length : Int) == 0) = false := beq_eq_false_iff_ne.2 (by omega)
    obtain ⟨T, hT⟩ : ∃ T, Dec.textL c = T := ⟨_, rfl⟩
    rw [hT] at htext hlen hbig ⊢
    have hTs : (⟨T.toArray⟩ : ByteArray).size = T.length := by simp [ByteArray.size]
    obtain ⟨S, hS⟩ : ∃ S : ByteArray, (⟨T.toArray⟩ : ByteArray) = S := ⟨_, rfl⟩
    unfold Tx.TextRes at htext
    rw [hS] at htext hTs
    have hT4 : T.length ≤ 4000 := by omega
    have hSs : S.size ≤ 4000 := by omega
    have hput := Lib.hid (fun W => rput_yes T.length hbig W)
    have hpl := Var.put_len_le T.length hbig
    obtain ⟨N, hN⟩ : ∃ N, Var.putN T.length = N := ⟨_, rfl⟩
    rw [hN] at hput hpl ⊢
    have hcells : Lib.strCells S = Lib.byteCells T := by rw [← hS]; exact strV_cells T
    have hbg : ¬ ((S.size : Int) > 268435455) := by omega
    rw [← hTs] at hput
    replace hTs := Lib.hid hTs
    replace hcells := Lib.hid hcells
    clear hT hS hN h0 hp hne hbig hlen
    go_enter Try.func14, Try.ntmps14
    go_wp2_with fail
    refine htext.out.mono ?_
    rintro e w1 ⟨rfl, q1⟩
    replace q1 := Lib.hid q1
    go_wp2_with fail
    refine (hput.out _).mono ?_
    rintro e w2 ⟨v2, rfl, o2, q2⟩
    replace o2 := Lib.hid o2
    have hz2' := Lib.hid q2.size
    replace q2 := Lib.hid q2
    go_wp2_with (at_builtin; refine wpList_append_own_string _ rfl _ _ 23 9 rfl w1.heap.size 5 i0 Try.underlying23 Try.underlying9 hi hz0 hz1 hz2 _ _ _ rfl o2.out S rfl (by unfold maxLen; omega) (by omega) hz2'.out ?_; intro v5 w5 hown5 hgrow5 _; have b5 := Lib.hid (below_row q2.out hgrow5 hz2'.out o2.out (Nat.le_refl _)); have o5 := Lib.hid (ownB_of_row (l := N ++ T) hown5 (by rw [List.length_append, hTs.out]) (by rw [hcells.out]; simp [Lib.byteCells])); clear hown5 hgrow5)
    go_ret
    exact ⟨_, rfl, bytes_of_own o5.out, q1.out.trans (b5.out.mono q1.out.size)⟩

theorem rrefusal_any (w : World) : Calls Try.prog 16 #[] w (ToldB [0] w) := by
  go_enter Try.func16, Try.ntmps16
  go_wp2_with fail
  go_ret
  refine ⟨_, rfl, .inr ⟨_, 1, rfl, Nat.le_refl _, fun _ => ⟨_, 0, rfl, by simp, fun i hi => ?_⟩⟩, below_new _ _⟩
  obtain rfl : i = 0 := by simpa using hi
  exact blk_cell (blk_new w _ _) 0 _ rfl

set_option maxHeartbeats 3200000 in
set_option maxRecDepth 100000 in
theorem rtake13_any (v : Value) (b : List UInt8) (w : World) (hl : b.length ≤ 1000000) (hv : RBytes w v b) : Calls Try.prog 10 #[v] w (Took (Frm.takeF b) w) := by
  have htk := rtake_any v b w hv
  obtain ⟨p, cap, rfl⟩ := bytes_form hv
  rcases Frm.takeL_cases b with ⟨c, hc, h1, h2⟩ | ⟨m, r, hb, hm, hc⟩
  · rw [took_err hc (by omega)]
    rw [hc] at htk
    replace htk := Lib.hid htk
    have hn : (c != 0) = true := by simp; omega
    clear hc
    go_enter Try.func10, Try.ntmps10
    go_wp2_with fail
    refine htk.out.mono ?_
    rintro e w1 ⟨rfl, rfl⟩
    go_wp2_with fail
    go_ret3
    exact ⟨_, rfl, .inl ⟨rfl, rfl⟩, Below.refl _ _⟩
  · obtain ⟨K, hK⟩ : ∃ K, (Var.putN m).length = K := ⟨_, rfl⟩
    have hKN : K ≤ b.length := by rw [hb, List.length_append]; omega
    have hK4 : K ≤ 4 := by rw [← hK]; exact Var.put_len_le m hm
    have hK1 : 1 ≤ K := by rw [← hK]; exact Var.put_len_pos m
    rw [hK] at hc
    have hm2 : m ≤ 268435455 := hm
    by_cases hs : (b.length : Int) - K < m
    · rw [took_short hc hs]
      rw [hc] at htk
      obtain ⟨N, hN⟩ : ∃ N, b.length = N := ⟨_, rfl⟩
      rw [hN] at htk hs hKN hl ⊢
      replace htk := Lib.hid htk
      clear hc hb hK hN hv
      go_enter Try.func10, Try.ntmps10
      go_wp2_with fail
      refine htk.out.mono ?_
      rintro e w1 ⟨rfl, rfl⟩
      go_wp2_with fail
      go_ret3
      exact ⟨_, rfl, .inl ⟨rfl, rfl⟩, Below.refl _ _⟩
    · rw [took_ok hc hs]
      rw [hc] at htk
      have hs2 : K + m ≤ b.length := by omega
      obtain ⟨b0, off, rfl, _, _⟩ := bytes_at hv (by omega)
      have hcap := bytes_cap hv
      have hmid := fun c => bytes_mid hv K m c hs2
      have hMl : ((b.drop K).take m).length = m := by rw [List.length_take, List.length_drop]; omega
      obtain ⟨M, hM⟩ : ∃ M, (b.drop K).take m = M := ⟨_, rfl⟩
      rw [hM] at hmid hMl ⊢
      replace hMl := Lib.hid hMl
      obtain ⟨N, hN⟩ : ∃ N, b.length = N := ⟨_, rfl⟩
      rw [hN] at htk hs hs2 hKN hl hcap ⊢
      replace htk := Lib.hid htk
      replace hmid := Lib.hid hmid
      clear hc hb hK hN hv hM
      go_enter Try.func10, Try.ntmps10
      go_wp2_with fail
      refine htk.out.mono ?_
      rintro e w1 ⟨rfl, rfl⟩
      go_wp2_with fail
      all_goals go_ret3
      · exact ⟨_, rfl, bytes_zero hMl.out (by omega), Below.refl _ _⟩
      · exact ⟨_, rfl, hmid.out _ (by omega), Below.refl _ _⟩

end Go.Proofs.Ytconccgfhdmafaa
