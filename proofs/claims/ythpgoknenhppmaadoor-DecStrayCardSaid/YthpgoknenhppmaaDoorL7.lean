/- The walks of layer 1's statements, on: DecStray. -/
import Derived.Test.YthpgoknenhppmaaDoorL3
import Derived.Test.YthpgoknenhppmaaDoorK3
import Derived.Test.YthpgoknenhppmaaDoorK4
import Derived.Deep.LoopGhost
namespace Go.Proofs.YthpgoknenhppmaaDoor
open Go.RowKit Go.Lib

/-- the slice value v is the call's own, in a row that bears a mark, and holds these bytes -/
def OwnM (B : Nat) (v : Value) (l : List UInt8) (w : World) : Prop := OwnsG w B 5 v l.length (Lib.byteCells l)

theorem ownM_start (B : Nat) (W : World) (s : ByteArray) (hB : B ≤ W.heap.size) (hs : s.size ≤ 100000) : OwnM B (.slice (some ⟨W.heap.size, 0, none⟩) s.size (capB W s)) s.data.toList (worldB W s) := by
  have hg := Lib.bytesWorld_at_new W 5 s
  have hge : s.size ≤ grownCap W s.size 0 5 := grownCap_ge W s.size 0 5
  have hcs : (Lib.bytesCells W 5 s).size = capB W s := by
    unfold Lib.bytesCells capB
    simp
    have : s.data.size = s.size := rfl
    omega
  refine ⟨by simp [Lib.byteCells], W.heap.size, capB W s, Lib.bytesCells W 5 s, _, ?_, hB, hg, .inr (Nat.le_refl _), ?_, ?_, hcs, ?_⟩
  · have e : s.data.toList.length = s.size := by simp
    rw [e]
  · have e : s.data.toList.length = s.size := by simp
    rw [e]
    exact hge
  · exact grownCap_le_maxLen W s.size 0 5 (by unfold maxLen; omega)
  · unfold Lib.bytesCells Lib.byteCells
    simp only [Array.toList_append, Array.toList_map]
    rw [List.take_append_of_le_length (by simp), List.take_of_length_le (by simp)]

theorem ownM_alloc {B : Nat} {v : Value} {l : List UInt8} {w : World} (h : OwnM B v l w) (o : Obj) : OwnM B v l (w.alloc o) := by
  obtain ⟨h0, g, cap, cur, fz, rfl, hB, hg, r⟩ := h
  refine ⟨h0, g, cap, cur, fz, rfl, hB, ?_, r⟩
  have hlt := (Array.getElem?_eq_some_iff.1 hg).1
  rw [Below.heap_alloc w o g hlt]
  exact hg

theorem ownM_lt {B : Nat} {v : Value} {l : List UInt8} {w : World} (h : OwnM B v l w) (k : Nat) (hk : v.ownBlock = some k) : B ≤ k := by
  obtain ⟨_, g, cap, cur, fz, rfl, hB, _⟩ := h
  simp [Value.ownBlock] at hk
  omega

theorem ownM_reads {B : Nat} {v : Value} {l : List UInt8} {w : World} (h : OwnM B v l w) : RBytes w v l := by
  obtain ⟨h0, g, cap, cur, fz, rfl, hB, hg, _, hn, _, hcs, ht⟩ := h
  refine .inr ⟨⟨g, 0, none⟩, cap, rfl, fun _ => ⟨g, 0, rfl, (Array.getElem?_eq_some_iff.1 hg).1, fun i hi => ?_⟩⟩
  rw [Nat.zero_add, cell_of_row w g i cur 5 fz hg]
  have h1 : (cur.toList.take l.length)[i]? = (Lib.byteCells l)[i]? := by rw [ht]
  rw [List.getElem?_take, if_pos hi] at h1
  simpa [Lib.byteCells, hi] using h1

/-- the loop that puts the stray bytes -/
def StrayRel (w : World) (bs : List UInt8) (x : UInt8) (k : Nat) (v : Value) (wr : World) : Prop :=
  OwnM w.heap.size v (bs ++ List.replicate k x) wr ∧ Below w.heap.size w wr

theorem stray_step {w w4 w5 : World} {bs : List UInt8} {x : UInt8} {k : Nat} {v v5 : Value} (h4 : OwnM w.heap.size v (bs ++ List.replicate k x) w4) (hb : Below w.heap.size w w4)
    (h5 : OwnsG w5 w.heap.size 5 v5 ((bs ++ List.replicate k x).length + 1) (Lib.byteCells (bs ++ List.replicate k x) ++ [.int .u8 (x.toNat : Int)])) (hg : w4.grownBy w5 v.ownBlock) : StrayRel w bs x (k + 1) v5 w5 := by
  refine ⟨?_, hb.grown hg hb.size (fun j hj => ownM_lt h4 j hj)⟩
  unfold OwnM
  have e : bs ++ List.replicate (k + 1) x = (bs ++ List.replicate k x) ++ [x] := by
    rw [List.replicate_succ', List.append_assoc]
  rw [e, Lib.byteCells_append, List.length_append]
  exact h5

theorem u8_stray (c : UInt8) : ∃ y : UInt8, (128 ≤ y.toNat ∧ y.toNat ≤ 191) ∧ bits .or .u8 (bits .and .u8 (c.toNat : Int) 63) 128 = (y.toNat : Int) := by
  have key : ∀ n : Nat, n < 256 → (128 ≤ bits .or .u8 (bits .and .u8 (n : Int) 63) 128 ∧ bits .or .u8 (bits .and .u8 (n : Int) 63) 128 ≤ 191) := by decide +kernel
  obtain ⟨h0, h1⟩ := key c.toNat c.toNat_lt
  refine ⟨UInt8.ofNat (bits .or .u8 (bits .and .u8 (c.toNat : Int) 63) 128).toNat, ?_, ?_⟩
  · rw [UInt8.toNat_ofNat']
    omega
  · rw [UInt8.toNat_ofNat']
    omega

set_option maxHeartbeats 1600000 in
theorem decStray_short (p : Option Addr) (cap : Nat) (l : List Int) (c x : UInt8) (n : Int) (w : World) (hT : Lib.Utf8Tabs 0 1 w) (hlen : l.length ≤ 60) (hr : RInts w (.slice p l.length cap) l)
    (hx : (128 ≤ x.toNat ∧ x.toNat ≤ 191) ∨ 248 ≤ x.toNat) (hc : (248 ≤ c.toNat ∧ x = c) ∨ (c.toNat < 248 ∧ bits .or .u8 (bits .and .u8 (c.toNat : Int) 63) 128 = (x.toNat : Int))) :
    Calls Tryd.prog 10 #[.slice p l.length cap, .int .u8 (c.toNat : Int), .int .i64 n] w fun e w' => e = .returned (.bool true) ∧ Below w.heap.size w w' := by
  replace hr := Lib.hid hr
  obtain ⟨i0, hi, hi0, hi1, hi2⟩ := info_parts info_byte
  replace hT := Lib.hid hT
  have hlen' : (l.length : Int) ≤ 60 := by omega
  obtain ⟨m, hm63, hm⟩ : ∃ m : Nat, m ≤ 63 ∧ bits .and .i64 n 63 = (m : Int) := ⟨(n % 64).toNat, by omega, by rw [and63]; omega⟩
  have hcv := run_toBytes
  replace hx := Lib.hid hx
  rcases hc with ⟨hc, rfl⟩ | ⟨hc, hcx⟩
  case' inl =>
    have g1 : ((248 : Int) ≤ (x.toNat : Int)) := by omega
    clear hc
  case' inr =>
    have g1 : decide ((248 : Int) ≤ (c.toNat : Int)) = false := by simp; omega
    clear hc
  all_goals
    go_enter Tryd.func10, Tryd.ntmps10
    go_wp2_with fail
    refine (awake_any w hT.out).mono ?_
    rintro e w1 ⟨rfl, hb1⟩
    have hr1 := Lib.hid (ints_below hr.out hb1)
    go_wp2_with fail
    refine (text_any _ l w1 (by omega) hr1.out).mono ?_
    rintro e w2 ⟨rfl, hb2⟩
    have hbel2 := hb1.trans (hb2.mono hb1.size)
    obtain ⟨s, hs⟩ : ∃ s, (⟨(Dec.textL l).toArray⟩ : ByteArray) = s := ⟨_, rfl⟩
    rw [hs]
    have hsl : s.data.toList = Dec.textL l := by rw [← hs]
    have htl := Dec.textL_len l
    have hsz : s.size ≤ 240 := by
      have e : s.size = (Dec.textL l).length := by rw [← hs]; simp [ByteArray.size]
      omega
    have hst : StrayRel w s.data.toList x 0 (.slice (some ⟨w2.heap.size, 0, none⟩) s.size (capB w2 s)) (worldB w2 s) := ⟨by simpa using ownM_start w.heap.size w2 s hbel2.size (by omega), hbel2.trans ((worldB_below w2 s).mono hbel2.size)⟩
    replace hst := Lib.hid hst
    have hbl : s.data.toList.length ≤ 240 := by simpa using hsz
    obtain ⟨bs, hbs⟩ : ∃ bs, s.data.toList = bs := ⟨_, rfl⟩
    rw [hbs] at hst hsl hbl
    replace hsl := Lib.hid hsl
    clear hb1 hb2 hs hbs htl hbel2
    go_wp2_with fail
    go_loopg [10, 11] m (fun g v i wr => ∃ k : Nat, k ≤ m ∧ g = m - k ∧ i = .int .i64 k ∧ StrayRel w bs x k v wr)
    case atStart => exact ⟨0, Nat.zero_le _, rfl, rfl, hst.out⟩
    case round =>
      obtain ⟨k, hk, rfl, rfl, hown, hbel⟩ := hrel
      by_cases hlt : k < m
      · have hlt' : (k : Int) < (m : Int) := by omega
        replace hown := Lib.hid hown
        have hm1 : (bs ++ List.replicate k x).length + 1 ≤ maxLen := by simp [maxLen]; omega
        have hm2 : ((bs ++ List.replicate k x).length + 1) * 1 ≤ 140737488355328 := by simp; omega
        have hm3 : w.heap.size ≤ (wr.alloc (Obj.cells #[Value.int IntKind.u8 (x.toNat : Int)] 5)).heap.size := by have := hbel.size; simp; omega
        replace hm1 := Lib.hid hm1
        replace hm2 := Lib.hid hm2
        replace hm3 := Lib.hid hm3
        clear hst
        go_wp2_with (at_builtin; refine wpList_append_ownG _ rfl _ _ 24 rfl w.heap.size 5 i0 (.int .u8 0) 1 Tryd.underlying24 hi hi0 hi1 hi2 rfl _ _ _ rfl (ownM_alloc hown.out _) ⟨wr.heap.size, 0, none⟩ 1 1 [.int .u8 (x.toNat : Int)] rfl rfl (cell_one_new _ _ _) (by simp [Value.oneCell']) hm1.out hm2.out hm3.out ?_; intro v5 w5 hown5 hgrow5)
        go_roundg (m - (k + 1))
        case measure => omega
        case rel => exact ⟨k + 1, by omega, rfl, by go_num, stray_step (ownM_alloc hown.out _) (hbel.alloc hbel.size _) hown5 hgrow5⟩
      · have hkk : k = m := by omega
        subst hkk
        have hrb := ownM_reads hown
        have hbtl : (bs ++ List.replicate k x).length ≤ 303 := by simp; omega
        obtain ⟨bt, hbt⟩ : ∃ bt, bs ++ List.replicate k x = bt := ⟨_, rfl⟩
        rw [hbt] at hrb hbtl
        replace hrb := Lib.hid hrb
        replace hbt := Lib.hid hbt
        have hT3 := Lib.hid (Utf8Tabs_below hT.out hbel)
        obtain ⟨vp, vc, rfl⟩ := bytes_form hrb.out
        clear hown hst
        go_wp2_with fail
        refine (all_any _ bt _ hT3.out (by omega) hrb.out).mono ?_
        rintro e w4 ⟨v4, rfl, hown4, hb4⟩
        have hbel4 := Lib.hid (hbel.trans (hb4.mono hbel.size))
        have hall : Dec.allL bt = l.map Dec.fix ++ List.replicate k 65533 := by rw [← hbt.out, hsl.out]; exact Dec.stray_all l hx.out k
        rw [hall] at hown4
        have hri := ints_of_own hown4
        obtain ⟨M, hM, hMl, hMr⟩ : ∃ M : List Int, l.map Dec.fix ++ List.replicate k 65533 = M ∧ M.length = l.length + k ∧ ∀ j (h : j < M.length), l.length ≤ j → M[j] = 65533 := by
          refine ⟨_, rfl, by simp, ?_⟩
          intro j h hj
          rw [List.getElem_append_right (by simpa using hj)]
          simp
        rw [hM] at hri
        replace hMr := Lib.hid hMr
        replace hri := Lib.hid hri
        obtain ⟨p2, c2, rfl⟩ := ints_form hri.out
        have g2 : ((M.length : Int) != (l.length : Int) + (k : Int)) = false := by simp; omega
        have hML : M.length ≤ 123 := by omega
        have hlM : l.length ≤ M.length := by omega
        clear hMl hown4 hb4 hall hM hbel
        go_wp2_with fail
        go_loopg [13] (M.length - l.length) (fun g i wr => w4 = wr ∧ ∃ j : Nat, l.length ≤ j ∧ j ≤ M.length ∧ g = M.length - j ∧ i = .int .i64 j)
        case atStart => exact ⟨rfl, l.length, Nat.le_refl _, hlM, rfl, rfl⟩
        case round =>
          obtain ⟨rfl, j, hlj, hjM, rfl, rfl⟩ := hrel
          by_cases hlt2 : j < M.length
          · obtain ⟨b, off, rfl, hb, hc⟩ := ints_at hri.out (by omega)
            have hcell : w4.cell? ⟨b, off + j, none⟩ = some (.int .i64 65533) := by rw [hc j hlt2, hMr.out j hlt2 hlj]
            clear hc
            go_wp2_with fail
            go_roundg (M.length - (j + 1))
            case measure => omega
            case rel => exact ⟨rfl, j + 1, by omega, by omega, rfl, by go_num⟩
          · go_wp2_with fail
            go_ret
            exact ⟨rfl, hbel4.out⟩

set_option maxHeartbeats 800000 in
theorem decStray_long (p : Option Addr) (n cap : Nat) (c : UInt8) (z : Int) (w : World) (hT : Lib.Utf8Tabs 0 1 w) (hlen : 60 < n) :
    Calls Tryd.prog 10 #[.slice p n cap, .int .u8 (c.toNat : Int), .int .i64 z] w fun e w' => e = .returned (.bool true) ∧ Below w.heap.size w w' := by
  have hT' := Lib.hid hT
  have hlen' : (60 : Int) < (n : Int) := by omega
  clear hT
  by_cases g : (248 : Int) ≤ (c.toNat : Int)
  case' neg => have g1 : decide ((248 : Int) ≤ (c.toNat : Int)) = false := by simpa using g
  all_goals
    go_enter Tryd.func10, Tryd.ntmps10
    go_wp2_with fail
    refine (awake_any w hT'.out).mono ?_
    rintro e w1 ⟨rfl, hb1⟩
    go_wp2_with fail
    go_ret
    exact ⟨rfl, hb1⟩

theorem decStray_walk (v : Value) (l : List Int) (c : UInt8) (n : Int) (w : World) (hT : Lib.Utf8Tabs 0 1 w) (hr : RInts w v l) (_ : -9223372036854775808 ≤ n ∧ n ≤ 9223372036854775807) :
    Calls Tryd.prog 10 #[v, .int .u8 (c.toNat : Int), .int .i64 n] w fun e w' => e = .returned (.bool true) ∧ Below w.heap.size w w' := by
  obtain ⟨p, cap, rfl⟩ := ints_form hr
  by_cases hl : l.length ≤ 60
  · by_cases hc : 248 ≤ c.toNat
    · exact decStray_short p cap l c c n w hT hl hr (.inr hc) (.inl ⟨hc, rfl⟩)
    · obtain ⟨y, h1, h2⟩ := u8_stray c
      exact decStray_short p cap l c y n w hT hl hr (.inl h1) (.inr ⟨by omega, h2⟩)
  · exact decStray_long p _ cap c n w hT (by omega)
end Go.Proofs.YthpgoknenhppmaaDoor
