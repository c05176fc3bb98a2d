/- Layer 1, the document's answer: Form, whole. -/
import Derived.Test.YtcchcgllgodkhaaDoorRA1
import Derived.Test.YtcchcgllgodkhaaDoorA3
namespace Go.Proofs.YtcchcgllgodkhaaDoor
open Go.RowKit Go.Lib

/-- string(..) of a row of bytes that was just made -/
theorem run_bytes_new (l : List UInt8) (cs : Array Value) (n : Nat) (hn : n = l.length) (h : cs.toList = l.map fun c => Value.int .u8 (c.toNat : Int)) (W : World) :
    (convert 24 9 (.slice (some ⟨W.heap.size, 0, none⟩) n n)).run Tryd.prog (W.alloc (.cells cs 5)) = .ok (.string ⟨l.toArray⟩) (W.alloc (.cells cs 5)) := by
  subst hn
  refine run_convert_bytes_back (P := Tryd.prog) _ 24 9 5 ⟨W.heap.size, 0, none⟩ l.length l Tryd.underlying24 Tryd.underlying5 Tryd.underlying9 ?_
  intro j hj
  have hadd : (⟨W.heap.size, 0, none⟩ : Addr).add j = ⟨W.heap.size, j, none⟩ := by unfold Addr.add; split <;> simp_all
  rw [hadd]
  have e : cs[j]? = some (.int .u8 (l[j].toNat : Int)) := by
    rw [← Array.getElem?_toList, h, List.getElem?_map, List.getElem?_eq_getElem hj]
    rfl
  simpa using e

/-- what Form comes to -/
def FormRes (r : Int) (w : World) (e : Ending) (w' : World) : Prop := e = .returned (.string ⟨(Lib.encodeRune r).toArray⟩) ∧ Below w.heap.size w w'

set_option maxHeartbeats 1600000 in
theorem form_any (r : Int) (hg : Dec.goodB r = true) (w : World) :
    Calls Tryd.prog 25 #[.int .i64 r] w (FormRes r w) := by
  have hg' := (Dec.goodB_iff r).1 hg
  obtain ⟨n, rfl⟩ := Int.eq_ofNat_of_zero_le hg'.1
  rcases (by omega : n ≤ 127 ∨ (128 ≤ n ∧ n ≤ 2047) ∨ ((2048 ≤ n ∧ n < 55296) ∨ (57343 < n ∧ n ≤ 65535)) ∨ (65536 ≤ n ∧ n ≤ 1114111)) with h | h | h | h
  · obtain ⟨a, e, h1⟩ := Dec.enc1 n h
    have hcv := fun W => run_bytes_new [a] #[.int .u8 (n : Int)] 1 rfl (by rw [← h1]; rfl) W
    replace e := Lib.hid e
    have t1 : (n : Int) < 128 := by omega
    clear h hg hg' h1
    go_enter Tryd.func25, Tryd.ntmps25
    go_wp2_with fail
    go_ret
    exact ⟨by rw [e.out]; rfl, below_new _ _⟩
  · obtain ⟨a, b, e, h1, h2⟩ := Dec.enc2 n h
    have hcv := fun W => run_bytes_new [a, b] #[.int .u8 (192 + (n : Int) / 64), .int .u8 (128 + (n : Int) % 64)] 2 rfl (by rw [show 192 + (n : Int) / 64 = (a.toNat : Int) by omega, show 128 + (n : Int) % 64 = (b.toNat : Int) by omega]; rfl) W
    replace e := Lib.hid e
    have t1 : decide ((n : Int) < 128) = false := by simp; omega
    have t2 : (n : Int) < 2048 := by omega
    have t3 : (128 : Int) ≤ (n : Int) := by omega
    clear h hg hg' h1 h2
    go_enter Tryd.func25, Tryd.ntmps25
    go_wp2_with fail
    go_ret
    exact ⟨by rw [e.out]; rfl, below_new _ _⟩
  · obtain ⟨a, b, c, e, h1, h2, h3⟩ := Dec.enc3 n h
    have hcv := fun W => run_bytes_new [a, b, c] #[.int .u8 (224 + (n : Int) / 4096), .int .u8 (128 + (n : Int) / 64 % 64), .int .u8 (128 + (n : Int) % 64)] 3 rfl (by rw [show 224 + (n : Int) / 4096 = (a.toNat : Int) by omega, show 128 + (n : Int) / 64 % 64 = (b.toNat : Int) by omega, show 128 + (n : Int) % 64 = (c.toNat : Int) by omega]; rfl) W
    replace e := Lib.hid e
    have t1 : decide ((n : Int) < 128) = false := by simp; omega
    have t2 : decide ((n : Int) < 2048) = false := by simp; omega
    have t4 : (n : Int) < 65536 := by omega
    have t3 : (2048 : Int) ≤ (n : Int) := by omega
    clear h hg hg' h1 h2 h3
    go_enter Tryd.func25, Tryd.ntmps25
    go_wp2_with fail
    go_ret
    exact ⟨by rw [e.out]; rfl, below_new _ _⟩
  · obtain ⟨a, b, c, d, e, h1, h2, h3, h4⟩ := Dec.enc4 n h
    have hcv := fun W => run_bytes_new [a, b, c, d] #[.int .u8 (240 + (n : Int) / 262144), .int .u8 (128 + (n : Int) / 4096 % 64), .int .u8 (128 + (n : Int) / 64 % 64), .int .u8 (128 + (n : Int) % 64)] 4 rfl (by rw [show 240 + (n : Int) / 262144 = (a.toNat : Int) by omega, show 128 + (n : Int) / 4096 % 64 = (b.toNat : Int) by omega, show 128 + (n : Int) / 64 % 64 = (c.toNat : Int) by omega, show 128 + (n : Int) % 64 = (d.toNat : Int) by omega]; rfl) W
    replace e := Lib.hid e
    have t1 : decide ((n : Int) < 128) = false := by simp; omega
    have t2 : decide ((n : Int) < 2048) = false := by simp; omega
    have t4 : decide ((n : Int) < 65536) = false := by simp; omega
    have t3 : (65536 : Int) ≤ (n : Int) := by omega
    have t5 : (n : Int) ≤ 1114111 := by omega
    clear h hg hg' h1 h2 h3 h4
    go_enter Tryd.func25, Tryd.ntmps25
    go_wp2_with fail
    go_ret
    exact ⟨by rw [e.out]; rfl, below_new _ _⟩
end Go.Proofs.YtcchcgllgodkhaaDoor
