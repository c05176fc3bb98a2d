/- Texts that stand together. -/
import Derived.Test.YtiidjkhkcckmkaaGreatDoorMatP
import Derived.Test.YtiidjkhkcckmkaaGreatDoorBasP
import Derived.Test.YtiidjkhkcckmkaaGreatDoorG1
import Derived.Test.YtiidjkhkcckmkaaGreatDoorMatQ
/- Layer 11: a state of clusters as a value. -/
namespace Go.Proofs.YtiidjkhkcckmkaaGreatDoor
set_option linter.unusedSimpArgs false
set_option linter.unusedVariables false
open Go.RowKit Go.Lib
/-- a state of clusters as a value -/
def csV (s : Clu.CS) : Value := .agg #[.bool s.on, .int .i64 s.kind, .bool s.pict, .bool s.odd]
end Go.Proofs.YtiidjkhkcckmkaaGreatDoor

/- Layer 12: a state of clusters, with its values, as a value. -/
namespace Go.Proofs.YtiidjkhkcckmkaaGreatDoor
set_option linter.unusedSimpArgs false
set_option linter.unusedVariables false
open Go.RowKit Go.Lib
/-- a state of layer 12 as a value: flat -/
def sgV (v : Value) (s : Clu.CS) : Value := .agg #[v, .bool s.on, .int .i64 s.kind, .bool s.pict, .bool s.odd]
end Go.Proofs.YtiidjkhkcckmkaaGreatDoor

/- Layer 13: rows of texts; what is asked of the code's functions. -/
namespace Go.Proofs.YtiidjkhkcckmkaaGreatDoor
set_option linter.unusedSimpArgs false
set_option linter.unusedVariables false
open Go.RowKit Go.Lib
/-- a text as a value -/
abbrev strV (t : List UInt8) : Value := .string ⟨t.toArray⟩
/-- a slice of texts -/
def SR (w : World) (v : Value) (ts : List (List UInt8)) : Prop :=
  (v = .slice none 0 0 ∧ ts = []) ∨ ∃ a cap, v = .slice (some a) ts.length cap ∧ ts.length ≤ cap ∧ (0 < ts.length → ∃ b off, a = ⟨b, off, none⟩ ∧ b < w.heap.size ∧ ∀ i (h : i < ts.length), w.cell? ⟨b, off + i, none⟩ = some (strV ts[i]))
theorem sr_at {w : World} {p : Option Addr} {n cap : Nat} {ts : List (List UInt8)} (h : SR w (.slice p n cap) ts) (hl : 0 < ts.length) : ∃ b off, p = some ⟨b, off, none⟩ ∧ b < w.heap.size ∧ ∀ i (h : i < ts.length), w.cell? ⟨b, off + i, none⟩ = some (strV ts[i]) := by
  rcases h with ⟨_, rfl⟩ | ⟨a, cap', he, _, h⟩
  · simp at hl
  · simp at he
    obtain ⟨rfl, _, _⟩ := he
    obtain ⟨b, off, rfl, h1, h2⟩ := h hl
    exact ⟨b, off, rfl, h1, h2⟩
theorem sr_form {w : World} {v : Value} {ts : List (List UInt8)} (h : SR w v ts) : ∃ p cap, v = .slice p ts.length cap := by
  rcases h with ⟨rfl, rfl⟩ | ⟨a, cap, rfl, _⟩
  · exact ⟨none, 0, rfl⟩
  · exact ⟨_, _, rfl⟩
/-- what tells bytes -/
def ToldB (l : List UInt8) (w : World) (e : Ending) (w' : World) : Prop := ∃ v, e = .returned v ∧ RBytes w' v l ∧ Below w.heap.size w w'
end Go.Proofs.YtiidjkhkcckmkaaGreatDoor

/- Layer 12: rows of slices; what is asked of the code's functions. -/
namespace Go.Proofs.YtiidjkhkcckmkaaGreatDoor
set_option linter.unusedSimpArgs false
set_option linter.unusedVariables false
open Go.RowKit Go.Lib
/-- a slice of slices of whole numbers -/
def RR (w : World) (v : Value) (ls : List (List Int)) : Prop :=
  (v = .slice none 0 0 ∧ ls = []) ∨ ∃ a cap, v = .slice (some a) ls.length cap ∧ ls.length ≤ cap ∧ (0 < ls.length → ∃ b off, a = ⟨b, off, none⟩ ∧ b < w.heap.size ∧ ∀ i (h : i < ls.length), ∃ u, w.cell? ⟨b, off + i, none⟩ = some u ∧ RI w u ls[i])
theorem rr_at {w : World} {p : Option Addr} {n cap : Nat} {ls : List (List Int)} (h : RR w (.slice p n cap) ls) (hl : 0 < ls.length) : ∃ b off, p = some ⟨b, off, none⟩ ∧ b < w.heap.size ∧ ∀ i (h : i < ls.length), ∃ u, w.cell? ⟨b, off + i, none⟩ = some u ∧ RI w u ls[i] := by
  rcases h with ⟨_, rfl⟩ | ⟨a, cap', he, _, h⟩
  · simp at hl
  · simp at he
    obtain ⟨rfl, _, _⟩ := he
    obtain ⟨b, off, rfl, h1, h2⟩ := h hl
    exact ⟨b, off, rfl, h1, h2⟩
theorem rr_form {w : World} {v : Value} {ls : List (List Int)} (h : RR w v ls) : ∃ p cap, v = .slice p ls.length cap := by
  rcases h with ⟨rfl, rfl⟩ | ⟨a, cap, rfl, _⟩
  · exact ⟨none, 0, rfl⟩
  · exact ⟨_, _, rfl⟩
def ToldR (ls : List (List Int)) (w : World) (e : Ending) (w' : World) : Prop := ∃ v, e = .returned v ∧ RR w' v ls ∧ Below w.heap.size w w'
end Go.Proofs.YtiidjkhkcckmkaaGreatDoor

/- Layer 14: what is asked of the code's functions. -/
namespace Go.Proofs.YtiidjkhkcckmkaaGreatDoor
set_option linter.unusedSimpArgs false
set_option linter.unusedVariables false
open Go.RowKit Go.Lib
/-- texts whose values, and what becomes of them, are not too many -/
structure Flw.Small (b : List UInt8) : Prop where
  b0 : b.length ≤ 50000
  b1 : (Dec.allL b).length ≤ 40000
  b2 : (Nfk.nfkcI (Dec.allL b)).length ≤ 40000
  b3 : (Fol.leftI (Nfk.nfkcI (Dec.allL b))).length ≤ 40000
  b4 : (Flw.valuesI b).length ≤ 50000
/-- the library's tables, in this world -/
abbrev Tabs (w : World) : Prop := Lib.Utf8Tabs 0 1 w
theorem tabs_next {w w1 : World} (h : Tabs w) (hb : Below w.heap.size w w1) : Tabs w1 := Utf8Tabs_below h hb
def FC14 : Prop := ∀ (v : Value) (b : List UInt8) (w : World), Tabs w → Flw.Small b → RBytes w v b → Calls Tryz.prog 26 #[v] w (ToldB (Flw.frameI b) w)
def GoodC1 : Prop := ∀ (r : Int) (w : World), Calls Tryz.prog 27 #[.int .i64 r] w fun e w' => e = .returned (.bool (Dec.goodB r)) ∧ w = w'
end Go.Proofs.YtiidjkhkcckmkaaGreatDoor

/- Layer 14: how much a text becomes. -/
namespace Go.Proofs.YtiidjkhkcckmkaaGreatDoor.Flw
set_option linter.unusedSimpArgs false
set_option linter.unusedVariables false
open Can Nfk Fol
theorem made_four (l : List Int) : (madeI l).length ≤ 4 * l.length := by
  induction l with
  | nil => simp [madeI]
  | cons x t ih =>
    have h := (Dcp.full_len x).2
    unfold madeI at ih ⊢
    rw [List.flatMap_cons, List.length_append, List.length_cons]
    omega
theorem nfkc_sharp (l : List Int) : 30 * (nfkcI l).length ≤ 124 * l.length := by
  have h1 := compose_le (nfkdI l)
  have h2 : (nfkdI l).length = (safeI (madeI l) 0).length := by unfold nfkdI; rw [orderI_len]
  have h3 := safe_len (madeI l) 0 (by omega)
  have h4 := made_four l
  unfold nfkcI
  omega
theorem left_three (l : List Int) : (leftI l).length ≤ 3 * l.length := by
  unfold leftI
  exact Nat.le_trans (List.length_filter_le _ _) (Cas.all_len l).2
theorem values_few {b : List UInt8} (h : b.length ≤ 200) : (Dec.allL b).length ≤ 200 ∧ (nfkcI (Dec.allL b)).length ≤ 826 ∧ (leftI (nfkcI (Dec.allL b))).length ≤ 2478 ∧ (valuesI b).length ≤ 10242 := by
  have h1 := Dec.all_len b
  have h2 := nfkc_sharp (Dec.allL b)
  have h3 := left_three (nfkcI (Dec.allL b))
  have h4 := nfkc_sharp (leftI (nfkcI (Dec.allL b)))
  have h5 : valuesI b = nfkcI (leftI (nfkcI (Dec.allL b))) := rfl
  rw [h5]
  omega
theorem small_of {b : List UInt8} (h : b.length ≤ 200) : Small b := by
  obtain ⟨h1, h2, h3, h4⟩ := values_few h
  exact ⟨by omega, by omega, by omega, by omega, by omega⟩
theorem clusters_few {b : List UInt8} (h : (valuesI b).length ≤ 50000) : (clustersI b).length ≤ 50000 := by
  have h1 := clusters_flat b
  have h2 := clusters_len b
  have : ∀ L : List (List Int), (∀ x ∈ L, 1 ≤ x.length) → L.length ≤ L.flatten.length := by
    intro L hL
    induction L with
    | nil => simp
    | cons x t ih =>
      have h1 := hL x (List.mem_cons_self ..)
      have h2 := ih fun y hy => hL y (List.mem_cons_of_mem _ hy)
      simp only [List.length_cons, List.flatten_cons, List.length_append]
      omega
  have := this (clustersI b) fun c hc => (h2 c hc).1
  rw [h1] at this
  omega
theorem frame_few {b : List UInt8} (h : (valuesI b).length ≤ 50000) : (frameI b).length ≤ 6600000 := by
  have h1 := clusters_few h
  have h2 := clusters_len b
  have : ∀ L : List (List Int), (∀ x ∈ L, x.length ≤ 32) → (L.flatMap Frm.putF).length ≤ 132 * L.length := by
    intro L hL
    induction L with
    | nil => simp
    | cons c t ih =>
      have h1 : (Frm.putF c).length ≤ 132 := by
        have hc := hL c (List.mem_cons_self ..)
        unfold Frm.putF
        split
        · simp
        · have h6 := Dec.textL_len c
          have h5 := Var.put_len_le (Dec.textL c).length (by omega)
          unfold Frm.frameOf
          rw [List.length_append]
          omega
      have h2 := ih fun x hx => hL x (List.mem_cons_of_mem _ hx)
      rw [List.flatMap_cons, List.length_append, List.length_cons]
      omega
  have := this (clustersI b) fun c hc => (h2 c hc).2
  unfold frameI
  omega
end Go.Proofs.YtiidjkhkcckmkaaGreatDoor.Flw

