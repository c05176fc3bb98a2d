/- Layer 15: a machine that a call tells, in a box of nine cells of whatever type. -/
import Derived.Test.YtiidjkhkcckmkaaGreatDoorMaR1
import Derived.Test.YtiidjkhkcckmkaaGreatDoorKP
namespace Go.Proofs.YtiidjkhkcckmkaaGreatDoor
set_option linter.unusedSimpArgs false
set_option linter.unusedVariables false
open Go.RowKit Go.Lib
open Mch (MS)
theorem off_own {B j : Nat} {v : Value} {l : List Int} {w : World} (h : OwnI B v l w) (hj : j < B) : OffV j v := fun e => by
  have := ownI_lt h j e
  omega
theorem off_nil (j : Nat) : OffV j (.slice none 0 0) := fun e => by cases e
/-- a box of nine cells is no row of numbers that the call made -/
theorem own_box9 {B k : Nat} {v : Value} {l : List Int} {w : World} {cs : Array Value} {T : TypeId} (h : OwnI B v l w) (hb : Blk w k cs T) (hT : T ≠ 3 := by decide) : v.ownBlock ≠ some k := by
  intro e
  rcases h.2 with ⟨rfl, _⟩ | ⟨g, cap, cur, rfl, _, hg, _⟩
  · cases e
  · cases e
    unfold Blk at hb
    rw [hb] at hg
    injection hg with hg
    injection hg with _ hg
    exact absurd hg hT
/-- where a row lies: where no block of the machine that came is, nor the result's -/
def At15 (w : World) (k : Nat) (v u : Value) : Prop := (∀ j, j < w.heap.size → OffM j v → OffV j u) ∧ OffV k u
theorem at_own {w W : World} {k : Nat} {v u : Value} {l : List Int} {cs : Array Value} {T : TypeId} (h : OwnI w.heap.size u l W) (hk : Blk W k cs T) (hT : T ≠ 3 := by decide) : At15 w k v u :=
  ⟨fun j hj _ => off_own h hj, fun e => absurd e (own_box9 h hk hT)⟩
theorem at_nil (w : World) (k : Nat) (v : Value) : At15 w k v (.slice none 0 0) := ⟨fun j _ _ => off_nil j, off_nil k⟩
theorem fed_gen {v vn vg vc vt : Value} {q : MS × List Int} {w W : World} {k : Nat} {z0 z1 z2 z3 z4 z5 z6 z7 z8 : Value} {T : TypeId} (hr : Blk W k #[z0, z1, z2, z3, z4, z5, z6, z7, z8] T) (hk : w.heap.size ≤ k)
    (hn : RI W vn q.1.n ∧ At15 w k v vn) (hg : RI W vg q.1.g ∧ At15 w k v vg) (hc : RI W vc q.1.c ∧ At15 w k v vc) (ht : RI W vt q.2 ∧ At15 w k v vt) (hb : Below w.heap.size w W) :
    FedM v q w (.returned (.tuple #[mchV q.1 vn vg vc, vt])) (set9 W k (.int .i64 q.1.kind) (strV q.1.d) vn vg (.bool q.1.s.on) (.int .i64 q.1.s.kind) (.bool q.1.s.pict) (.bool q.1.s.odd) vc) := by
  have hs := same_set9 W k (.int .i64 q.1.kind) (strV q.1.d) vn vg (.bool q.1.s.on) (.int .i64 q.1.s.kind) (.bool q.1.s.pict) (.bool q.1.s.odd) vc
  have go := fun (u : Value) (l : List Int) (h : RI W u l ∧ At15 w k v u) => ri_but h.1 hs (fun j e => e ▸ h.2.2)
  exact ⟨_, _, rfl, ⟨vn, vg, vc, rfl, go _ _ hn, go _ _ hg, go _ _ hc⟩, go _ _ ht, fun j hj hv => ⟨(offM_iff j q.1 vn vg vc).2 ⟨hn.2.1 j hj hv, hg.2.1 j hj hv, hc.2.1 j hj hv⟩, ht.2.1 j hj hv⟩, below_set9 hb hk _ _ _ _ _ _ _ _ _⟩
theorem blk_but9 {w : World} {k j : Nat} {cs : Array Value} {T : TypeId} (h : Blk w j cs T) (hj : j ≠ k) (x0 x1 x2 x3 x4 x5 x6 x7 x8 : Value) : Blk (set9 w k x0 x1 x2 x3 x4 x5 x6 x7 x8) j cs T := (set9_block w k x0 x1 x2 x3 x4 x5 x6 x7 x8 j hj).trans h
theorem held5_15 {w : World} {k : Nat} {a b c d e : Value} {T : TypeId} (h : Blk w k #[a, b, c, d, e] T) : w.cell? ⟨k, 0, none⟩ = some a ∧ w.cell? ⟨k, 1, none⟩ = some b ∧ w.cell? ⟨k, 2, none⟩ = some c ∧ w.cell? ⟨k, 3, none⟩ = some d ∧ w.cell? ⟨k, 4, none⟩ = some e :=
  ⟨blk_cell h 0 _ rfl, blk_cell h 1 _ rfl, blk_cell h 2 _ rfl, blk_cell h 3 _ rfl, blk_cell h 4 _ rfl⟩
theorem ri_nil15 (w : World) : RI w (.slice none 0 0) [] := .inl ⟨rfl, rfl⟩
theorem byte_of (x : Int) : IntKind.u8.wrap (x % 256) = ((Mch.byteOf x).toNat : Int) := by
  unfold Mch.byteOf
  have h0 : 0 ≤ x % 256 := Int.emod_nonneg _ (by decide)
  have h1 : x % 256 < 256 := Int.emod_lt_of_pos _ (by decide)
  have e : (UInt8.ofNat (x % 256).toNat).toNat = (x % 256).toNat := by
    rw [UInt8.toNat_ofNat']
    exact Nat.mod_eq_of_lt (by omega)
  rw [e]
  have hw : IntKind.u8.wrap (x % 256) = x % 256 := by
    have : IntKind.u8.wrap (x % 256) = (x % 256) % 256 := by rfl
    rw [this]
    omega
  rw [hw]
  omega
/-- a number as a byte -/
theorem byte_wrap15 (x : Int) : IntKind.u8.wrap x = ((Mch.byteOf x).toNat : Int) := by
  rw [← byte_of x]
  show x % 256 = (x % 256) % 256
  omega
end Go.Proofs.YtiidjkhkcckmkaaGreatDoor
