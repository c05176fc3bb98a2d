/- Layer 7, plain mathematics: what stands in a row of places, and what the steps of a stable sort make of it. -/
import Derived.Test.YtkhjkodeolaemaaDoorCnM
import Derived.Sort.LotA
namespace Go.Proofs.YtkhjkodeolaemaaDoor.Stb
set_option linter.unusedSimpArgs false
set_option linter.unusedVariables false
open Go.Sort

/-- a value, its row, its class, and where it stood -/
abbrev El := Int × Int × Int × Nat

/-- stands ahead by row and class -/
def KL (x y : El) : Prop := x.2.1 < y.2.1 ∨ (x.2.1 = y.2.1 ∧ x.2.2.1 < y.2.2.1)
/-- .. or else by where it stood -/
def SL (x y : El) : Prop := x.2.1 < y.2.1 ∨ (x.2.1 = y.2.1 ∧ (x.2.2.1 < y.2.2.1 ∨ (x.2.2.1 = y.2.2.1 ∧ x.2.2.2 < y.2.2.2)))

instance (x y : El) : Decidable (KL x y) := by unfold KL; infer_instance

theorem sl_of_kl {x y : El} (h : KL x y) : SL x y := by unfold KL at h; unfold SL; omega
theorem sl_of_not {x y : El} (h : ¬ KL y x) (hk : x.2.2.2 < y.2.2.2) : SL x y := by unfold KL at h; unfold SL; omega
theorem sl_trans {x y z : El} (h1 : SL x y) (h2 : SL y z) : SL x z := by unfold SL at *; omega
theorem sl_kl {x y z : El} (h1 : SL x y) (h2 : KL y z) : SL x z := sl_trans h1 (sl_of_kl h2)
theorem sl_not {x y : El} (h1 : SL x y) : ¬ SL y x := by unfold SL at *; omega

/-- in order from a to b -/
def St (d : Array El) (a b : Nat) : Prop := ∀ i j, a ≤ i → i < j → j < b → SL d[i]! d[j]!
/-- what lies in [a, m) stood ahead of what lies in [m, b) -/
def Ah (d : Array El) (a m b : Nat) : Prop := ∀ i j, a ≤ i → i < m → m ≤ j → j < b → (d[i]!).2.2.2 < (d[j]!).2.2.2

def Via (f : Nat → Nat) (d d' : Array El) : Prop := d'.size = d.size ∧ ∀ t, t < d.size → d'[t]! = d[f t]!

/-- two rows of n change places -/
def sR (a b n t : Nat) : Nat := if a ≤ t ∧ t < a + n then t - a + b else if b ≤ t ∧ t < b + n then t - b + a else t
/-- two rows, one behind the other, change places -/
def rR (a m b t : Nat) : Nat := if a ≤ t ∧ t < a + (b - m) then t - a + m else if a + (b - m) ≤ t ∧ t < b then t - (b - m) else t
/-- what stood at m stands at i, what lay between one place on -/
def dR (i m t : Nat) : Nat := if t = i then m else if i < t ∧ t ≤ m then t - 1 else t
/-- what stood at a stands at k, what lay between one place ahead -/
def uR (a k t : Nat) : Nat := if t = k then a else if a ≤ t ∧ t < k then t + 1 else t

theorem st_via {f : Nat → Nat} {d d' : Array El} (h : Via f d d') {a b : Nat} (hb : b ≤ d.size) (hs : ∀ i j, a ≤ i → i < j → j < b → SL d[f i]! d[f j]!) : St d' a b := fun i j h1 h2 h3 => by
  rw [h.2 i (by omega), h.2 j (by omega)]
  exact hs i j h1 h2 h3

theorem st_one (d : Array El) (a : Nat) : St d a (a + 1) := fun i j h1 h2 h3 => by omega
theorem st_sub {d : Array El} {a b a' b' : Nat} (h : St d a b) (h1 : a ≤ a') (h2 : b' ≤ b) : St d a' b' := fun i j x y z => h i j (by omega) y (by omega)

/-- exchange of places k and k + n .. -/
theorem via_swap_more {a b n i : Nat} {d dk : Array El} (hab : a + n ≤ b) (hb : b + n ≤ d.size) (hi : i < n) (h : Via (sR a b i) d dk) : Via (sR a b (i + 1)) d (swp dk (a + i) (b + i)) := by
  refine ⟨by rw [size_swp]; exact h.1, fun t ht => ?_⟩
  have hs := h.1
  rw [swp_get dk (by omega) (by omega)]
  by_cases h1 : t = b + i
  · subst h1
    rw [if_pos rfl, h.2 _ (by omega)]
    congr 1
    unfold sR
    split <;> split <;> (repeat' split) <;> omega
  · rw [if_neg h1]
    by_cases h2 : t = a + i
    · subst h2
      rw [if_pos rfl, h.2 _ (by omega)]
      congr 1
      unfold sR
      split <;> split <;> (repeat' split) <;> omega
    · rw [if_neg h2, h.2 _ ht]
      congr 1
      unfold sR
      split <;> split <;> (repeat' split) <;> omega

theorem via_rot_more {s m e __i _j : Nat} {d dk d1 : Array El} (f : Nat → Nat) (hd1 : Via f dk d1) (hs : dk.size = d.size) (g : Nat → Nat) (hg : ∀ d' : Array El, Via g dk d' → Via (rR s m e) d d') (g' : Nat → Nat) (he : ∀ t, t < d.size → g' t < d.size ∧ f (g' t) = g t) :
    ∀ d' : Array El, Via g' d1 d' → Via (rR s m e) d d' := fun d' h => hg d' ⟨by rw [h.1, hd1.1], fun t ht => by
  have := he t (by omega)
  rw [h.2 t (by rw [hd1.1]; exact ht), hd1.2 _ (by omega), this.2]⟩

theorem rot_step1 {m i j : Nat} (hi : i ≤ m) (hj : j < i) (t : Nat) : sR (m - i) m j (rR (m - (i - j)) m (m + j) t) = rR (m - i) m (m + j) t := by
  unfold sR rR
  (repeat' split) <;> omega
theorem rot_step2 {m i j : Nat} (hi : i ≤ m) (hj : i ≤ j) (t : Nat) : sR (m - i) (m + j - i) i (rR (m - i) m (m + (j - i)) t) = rR (m - i) m (m + j) t := by
  unfold sR rR
  (repeat' split) <;> omega
theorem rot_end {m i : Nat} (hi : i ≤ m) (t : Nat) : sR (m - i) m i t = rR (m - i) m (m + i) t := by
  unfold sR rR
  (repeat' split) <;> omega
theorem rot_lt {s m e n : Nat} (_h1 : s ≤ m) (h2 : m ≤ e) (h3 : e ≤ n) (t : Nat) (ht : t < n) : rR s m e t < n := by
  unfold rR
  (repeat' split) <;> omega

theorem rot_none {s m : Nat} (d : Array El) : Via (rR s m m) d d := ⟨rfl, fun t _ => by congr 1; unfold rR; (repeat' split) <;> omega⟩
theorem rot_none2 {m e : Nat} (d : Array El) (h : m ≤ e) : Via (rR m m e) d d := ⟨rfl, fun t _ => by congr 1; unfold rR; (repeat' split) <;> omega⟩

/-- shifting down: a step -/
theorem via_down {j m : Nat} {d dk : Array El} (hj : j + 1 ≤ m) (hm : m < d.size) (h : Via (dR (j + 1) m) d dk) : Via (dR j m) d (swp dk (j + 1) j) := by
  refine ⟨by rw [size_swp]; exact h.1, fun t ht => ?_⟩
  have hs := h.1
  rw [swp_get dk (by omega) (by omega)]
  by_cases h1 : t = j
  · subst h1
    rw [if_pos rfl, h.2 _ (by omega)]
    congr 1
    unfold dR
    (repeat' split) <;> omega
  · rw [if_neg h1]
    by_cases h2 : t = j + 1
    · subst h2
      rw [if_pos rfl, h.2 _ (by omega)]
      congr 1
      unfold dR
      (repeat' split) <;> omega
    · rw [if_neg h2, h.2 _ ht]
      congr 1
      unfold dR
      (repeat' split) <;> omega
theorem via_up {a k : Nat} {d dk : Array El} (ha : a ≤ k) (hm : k + 1 < d.size) (h : Via (uR a k) d dk) : Via (uR a (k + 1)) d (swp dk k (k + 1)) := by
  refine ⟨by rw [size_swp]; exact h.1, fun t ht => ?_⟩
  have hs := h.1
  rw [swp_get dk (by omega) (by omega)]
  by_cases h1 : t = k + 1
  · subst h1
    rw [if_pos rfl, h.2 _ (by omega)]
    congr 1
    unfold uR
    (repeat' split) <;> omega
  · rw [if_neg h1]
    by_cases h2 : t = k
    · subst h2
      rw [if_pos rfl, h.2 _ (by omega)]
      congr 1
      unfold uR
      (repeat' split) <;> omega
    · rw [if_neg h2, h.2 _ ht]
      congr 1
      unfold uR
      (repeat' split) <;> omega
theorem via_down0 (d : Array El) (m : Nat) : Via (dR m m) d d := ⟨rfl, fun t _ => by congr 1; unfold dR; (repeat' split) <;> omega⟩
theorem via_up0 (d : Array El) (a : Nat) : Via (uR a a) d d := ⟨rfl, fun t _ => by congr 1; unfold uR; (repeat' split) <;> omega⟩

/-- d[m] laid at i among [a, m) -/
theorem insert_down {a i m : Nat} {d d' : Array El} (h : Via (dR i m) d d') (hm : m < d.size) (hi : a ≤ i) (him : i ≤ m) (hs : St d a m) (ha : Ah d a m (m + 1))
    (h1 : i = a ∨ ¬ KL d[m]! d[i - 1]!) (h2 : i = m ∨ KL d[m]! d[i]!) : St d' a (m + 1) := by
  have low : ∀ t, a ≤ t → t < i → SL d[t]! d[m]! := fun t ht1 ht2 => by
    rcases h1 with h1 | h1
    · omega
    have hx : SL d[i - 1]! d[m]! := sl_of_not h1 (ha (i - 1) m (by omega) (by omega) (Nat.le_refl _) (by omega))
    rcases Nat.lt_or_ge t (i - 1) with h | h
    · exact sl_trans (hs t (i - 1) ht1 h (by omega)) hx
    · rw [show t = i - 1 by omega]; exact hx
  have high : ∀ t, i ≤ t → t < m → SL d[m]! d[t]! := fun t ht1 ht2 => by
    rcases h2 with h2 | h2
    · omega
    rcases Nat.lt_or_ge i t with h | h
    · exact sl_trans (sl_of_kl h2) (hs i t hi h ht2)
    · rw [show t = i by omega]; exact sl_of_kl h2
  refine st_via h (by omega) fun x y hx hxy hy => ?_
  unfold dR
  by_cases x1 : x = i
  · rw [if_pos x1, if_neg (by omega), if_pos (by omega)]
    exact high _ (by omega) (by omega)
  · rw [if_neg x1]
    by_cases y1 : y = i
    · rw [if_neg (by omega), if_pos y1]
      exact low _ hx (by omega)
    · rw [if_neg y1]
      by_cases x2 : i < x ∧ x ≤ m
      · rw [if_pos x2, if_pos (by omega)]
        exact hs _ _ (by omega) (by omega) (by omega)
      · rw [if_neg x2]
        by_cases y2 : i < y ∧ y ≤ m
        · rw [if_pos y2]
          exact hs _ _ (by omega) (by omega) (by omega)
        · rw [if_neg y2]
          exact hs _ _ (by omega) (by omega) (by omega)

/-- d[a] laid behind those of [a + 1, b) that stand ahead of it -/
theorem insert_up {a i b : Nat} {d d' : Array El} (h : Via (uR a (i - 1)) d d') (hb : b ≤ d.size) (hi : a + 1 ≤ i) (hib : i ≤ b) (hs : St d (a + 1) b) (ha : Ah d a (a + 1) b)
    (h1 : i = a + 1 ∨ KL d[i - 1]! d[a]!) (h2 : i = b ∨ ¬ KL d[i]! d[a]!) : St d' a b := by
  have low : ∀ t, a + 1 ≤ t → t < i → SL d[t]! d[a]! := fun t ht1 ht2 => by
    rcases h1 with h1 | h1
    · omega
    rcases Nat.lt_or_ge t (i - 1) with h | h
    · exact sl_trans (hs t (i - 1) ht1 h (by omega)) (sl_of_kl h1)
    · rw [show t = i - 1 by omega]; exact sl_of_kl h1
  have high : ∀ t, i ≤ t → t < b → SL d[a]! d[t]! := fun t ht1 ht2 => by
    rcases h2 with h2 | h2
    · omega
    have hx : SL d[a]! d[i]! := sl_of_not h2 (ha a i (Nat.le_refl _) (by omega) (by omega) (by omega))
    rcases Nat.lt_or_ge i t with h | h
    · exact sl_trans hx (hs i t (by omega) h ht2)
    · rw [show t = i by omega]; exact hx
  refine st_via h (by omega) fun x y hx hxy hy => ?_
  unfold uR
  by_cases x1 : x = i - 1
  · rw [if_pos x1, if_neg (by omega), if_neg (by omega)]
    exact high _ (by omega) (by omega)
  · rw [if_neg x1]
    by_cases y1 : y = i - 1
    · rw [if_pos (by omega), if_pos y1]
      exact low _ (by omega) (by omega)
    · rw [if_neg y1]
      by_cases x2 : a ≤ x ∧ x < i - 1
      · rw [if_pos x2]
        by_cases y2 : a ≤ y ∧ y < i - 1
        · rw [if_pos y2]
          exact hs _ _ (by omega) (by omega) (by omega)
        · rw [if_neg y2]
          exact hs _ _ (by omega) (by omega) (by omega)
      · rw [if_neg x2, if_neg (by omega)]
        exact hs _ _ (by omega) (by omega) (by omega)

/-- the halves behind the exchange in the middle -/
theorem halves {a m b s e mid : Nat} {d d1 : Array El} (hd : Via (rR s m e) d d1) (hb : b ≤ d.size) (ham : a < m) (hmb : m < b) (hs1 : a ≤ s) (hs2 : s ≤ m) (he1 : m ≤ e) (he2 : e ≤ b) (hmid : s + (e - m) = mid)
    (h1 : St d a m) (h2 : St d m b) (ha : Ah d a m b) (n1 : a < s → e < b → ¬ KL d[e]! d[s - 1]!) (n2 : s < m → m < e → KL d[e - 1]! d[s]!) :
    St d1 a s ∧ St d1 s mid ∧ Ah d1 a s mid ∧ St d1 mid e ∧ St d1 e b ∧ Ah d1 mid e b ∧ ∀ i j, a ≤ i → i < mid → mid ≤ j → j < b → SL d1[i]! d1[j]! := by
  have g1 : ∀ t, a ≤ t → t < s → d1[t]! = d[t]! := fun t x y => by rw [hd.2 t (by omega)]; congr 1; unfold rR; (repeat' split) <;> omega
  have g2 : ∀ t, s ≤ t → t < mid → d1[t]! = d[t - s + m]! := fun t x y => by rw [hd.2 t (by omega)]; congr 1; unfold rR; (repeat' split) <;> omega
  have g3 : ∀ t, mid ≤ t → t < e → d1[t]! = d[t - (e - m)]! := fun t x y => by rw [hd.2 t (by omega)]; congr 1; unfold rR; (repeat' split) <;> omega
  have g4 : ∀ t, e ≤ t → t < b → d1[t]! = d[t]! := fun t x y => by rw [hd.2 t (by omega)]; congr 1; unfold rR; (repeat' split) <;> omega
  have le1 : ∀ x y, a ≤ x → x < s → s ≤ y → y < m → SL d[x]! d[y]! := fun x y p q r t => h1 x y p (by omega) t
  have le2 : ∀ x y, a ≤ x → x < s → e ≤ y → y < b → SL d[x]! d[y]! := fun x y p q r t => by
    have hn := n1 (by omega) (by omega)
    have hx : SL d[s - 1]! d[e]! := sl_of_not hn (ha (s - 1) e (by omega) (by omega) (by omega) (by omega))
    have hx' : SL d[x]! d[e]! := by
      rcases Nat.lt_or_ge x (s - 1) with h | h
      · exact sl_trans (h1 x (s - 1) p h (by omega)) hx
      · rw [show x = s - 1 by omega]; exact hx
    rcases Nat.lt_or_ge e y with h | h
    · exact sl_trans hx' (h2 e y (by omega) h t)
    · rw [show y = e by omega]; exact hx'
  have le3 : ∀ x y, m ≤ x → x < e → s ≤ y → y < m → SL d[x]! d[y]! := fun x y p q r t => by
    have hn := sl_of_kl (n2 (by omega) (by omega))
    have hx : SL d[x]! d[s]! := by
      rcases Nat.lt_or_ge x (e - 1) with h | h
      · exact sl_trans (h2 x (e - 1) p h (by omega)) hn
      · rw [show x = e - 1 by omega]; exact hn
    rcases Nat.lt_or_ge s y with h | h
    · exact sl_trans hx (h1 s y (by omega) h t)
    · rw [show y = s by omega]; exact hx
  have le4 : ∀ x y, m ≤ x → x < e → e ≤ y → y < b → SL d[x]! d[y]! := fun x y p q r t => h2 x y p (by omega) t
  refine ⟨fun i j x y z => ?_, fun i j x y z => ?_, fun i j x y z t => ?_, fun i j x y z => ?_, fun i j x y z => ?_, fun i j x y z t => ?_, fun i j x y z t => ?_⟩
  · rw [g1 i x (by omega), g1 j (by omega) z]; exact h1 i j x y (by omega)
  · rw [g2 i x (by omega), g2 j (by omega) z]; exact h2 _ _ (by omega) (by omega) (by omega)
  · rw [g1 i x (by omega), g2 j z t]; exact ha _ _ (by omega) (by omega) (by omega) (by omega)
  · rw [g3 i x (by omega), g3 j (by omega) z]; exact h1 _ _ (by omega) (by omega) (by omega)
  · rw [g4 i x (by omega), g4 j (by omega) z]; exact h2 _ _ (by omega) (by omega) (by omega)
  · rw [g3 i x (by omega), g4 j z t]; exact ha _ _ (by omega) (by omega) (by omega) (by omega)
  · rcases Nat.lt_or_ge i s with hi | hi <;> rcases Nat.lt_or_ge j e with hj | hj
    · rw [g1 i x hi, g3 j z hj]; exact le1 _ _ x hi (by omega) (by omega)
    · rw [g1 i x hi, g4 j hj t]; exact le2 _ _ x hi hj t
    · rw [g2 i hi y, g3 j z hj]; exact le3 _ _ (by omega) (by omega) (by omega) (by omega)
    · rw [g2 i hi y, g4 j hj t]; exact le4 _ _ (by omega) (by omega) hj t

/-- both halves put in order: all is -/
theorem both {a mid b : Nat} {d1 d2 d3 : Array El} (hb : b ≤ d1.size) (_hm : a ≤ mid) (_hmb : mid ≤ b) (h : ∀ i j, a ≤ i → i < mid → mid ≤ j → j < b → SL d1[i]! d1[j]!)
    (p2 : PermIn a mid d1 d2) (p3 : PermIn mid b d2 d3) (s2 : St d2 a mid) (s3 : St d3 mid b) : St d3 a b := by
  have z2 := p2.1
  have c1 : ∀ i j, a ≤ i → i < mid → mid ≤ j → j < b → SL d2[i]! d2[j]! := fun i j x y z t => by
    rw [p2.2.1 j (Or.inr z)]
    exact permIn_all d1 d2 a mid (fun e => SL e d1[j]!) (by omega) p2 (fun k k1 k2 => h k j k1 k2 z t) i x y
  have c2 : ∀ i j, a ≤ i → i < mid → mid ≤ j → j < b → SL d3[i]! d3[j]! := fun i j x y z t => by
    rw [p3.2.1 i (Or.inl y)]
    exact permIn_all d2 d3 mid b (fun e => SL d2[i]! e) (by omega) p3 (fun k k1 k2 => c1 i k x y k1 k2) j z t
  intro i j x y z
  rcases Nat.lt_or_ge j mid with hj | hj
  · rw [p3.2.1 i (Or.inl (by omega)), p3.2.1 j (Or.inl hj)]; exact s2 i j x y hj
  rcases Nat.lt_or_ge i mid with hi | hi
  · exact c2 i j x hi hj z
  · exact s3 i j hi y z

theorem perm_sub {d d' : Array El} {a b a' b' : Nat} (h : PermIn a b d d') (ha : a' ≤ a) (hb : b ≤ b') (hb' : b' ≤ d.size) : PermIn a' b' d d' := permIn_mono d d' a b a' b' ha hb hb' h
theorem perm_on {d d' d'' : Array El} {a b : Nat} (h : PermIn a b d d') (h' : PermIn a b d' d'') : PermIn a b d d'' := permIn_trans d d' d'' a b h h'
theorem perm_swp {d dk : Array El} {a b i j : Nat} (h : PermIn a b d dk) (hb : b ≤ d.size) (hi : a ≤ i ∧ i < b) (hj : a ≤ j ∧ j < b) : PermIn a b d (swp dk i j) :=
  perm_on h (swp_permIn dk a b i j hi.1 hi.2 hj.1 hj.2 (by rw [h.1]; exact hb))

end Go.Proofs.YtkhjkodeolaemaaDoor.Stb
