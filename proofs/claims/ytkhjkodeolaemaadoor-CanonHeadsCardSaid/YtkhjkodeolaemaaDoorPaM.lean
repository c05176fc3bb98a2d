/- Layer 5, plain mathematics: which two values are one. -/
import Derived.Test.YtkhjkodeolaemaaDoorDeM
namespace Go.Proofs.YtkhjkodeolaemaaDoor.Par
set_option linter.unusedSimpArgs false
set_option linter.unusedVariables false

def T : List (Int × Int × Int) := [
  (65, 768, 192), (65, 769, 193), (65, 770, 194), (65, 771, 195), (65, 772, 256), (65, 774, 258), (65, 776, 196), (65, 777, 7842), (65, 778, 197), (65, 803, 7840),
  (65, 808, 260), (67, 769, 262), (67, 770, 264), (67, 775, 266), (67, 780, 268), (67, 807, 199), (68, 780, 270), (69, 768, 200), (69, 769, 201), (69, 770, 202),
  (69, 771, 7868), (69, 772, 274), (69, 774, 276), (69, 775, 278), (69, 776, 203), (69, 777, 7866), (69, 780, 282), (69, 803, 7864), (69, 808, 280), (71, 770, 284),
  (71, 774, 286), (71, 775, 288), (71, 807, 290), (72, 770, 292), (73, 768, 204), (73, 769, 205), (73, 770, 206), (73, 771, 296), (73, 772, 298), (73, 774, 300),
  (73, 775, 304), (73, 776, 207), (73, 777, 7880), (73, 803, 7882), (73, 808, 302), (74, 770, 308), (75, 807, 310), (76, 769, 313), (76, 780, 317), (76, 807, 315),
  (78, 769, 323), (78, 771, 209), (78, 780, 327), (78, 807, 325), (79, 768, 210), (79, 769, 211), (79, 770, 212), (79, 771, 213), (79, 772, 332), (79, 774, 334),
  (79, 776, 214), (79, 777, 7886), (79, 779, 336), (79, 795, 416), (79, 803, 7884), (82, 769, 340), (82, 780, 344), (82, 807, 342), (83, 769, 346), (83, 770, 348),
  (83, 780, 352), (83, 807, 350), (84, 780, 356), (84, 807, 354), (85, 768, 217), (85, 769, 218), (85, 770, 219), (85, 771, 360), (85, 772, 362), (85, 774, 364),
  (85, 776, 220), (85, 777, 7910), (85, 778, 366), (85, 779, 368), (85, 795, 431), (85, 803, 7908), (85, 808, 370), (87, 770, 372), (89, 768, 7922), (89, 769, 221),
  (89, 770, 374), (89, 771, 7928), (89, 776, 376), (89, 777, 7926), (89, 803, 7924), (90, 769, 377), (90, 775, 379), (90, 780, 381), (97, 768, 224), (97, 769, 225),
  (97, 770, 226), (97, 771, 227), (97, 772, 257), (97, 774, 259), (97, 776, 228), (97, 777, 7843), (97, 778, 229), (97, 803, 7841), (97, 808, 261), (99, 769, 263),
  (99, 770, 265), (99, 775, 267), (99, 780, 269), (99, 807, 231), (100, 780, 271), (101, 768, 232), (101, 769, 233), (101, 770, 234), (101, 771, 7869), (101, 772, 275),
  (101, 774, 277), (101, 775, 279), (101, 776, 235), (101, 777, 7867), (101, 780, 283), (101, 803, 7865), (101, 808, 281), (103, 770, 285), (103, 774, 287),
  (103, 775, 289), (103, 807, 291), (104, 770, 293), (105, 768, 236), (105, 769, 237), (105, 770, 238), (105, 771, 297), (105, 772, 299), (105, 774, 301),
  (105, 776, 239), (105, 777, 7881), (105, 803, 7883), (105, 808, 303), (106, 770, 309), (107, 807, 311), (108, 769, 314), (108, 780, 318), (108, 807, 316),
  (110, 769, 324), (110, 771, 241), (110, 780, 328), (110, 807, 326), (111, 768, 242), (111, 769, 243), (111, 770, 244), (111, 771, 245), (111, 772, 333),
  (111, 774, 335), (111, 776, 246), (111, 777, 7887), (111, 779, 337), (111, 795, 417), (111, 803, 7885), (114, 769, 341), (114, 780, 345), (114, 807, 343),
  (115, 769, 347), (115, 770, 349), (115, 780, 353), (115, 807, 351), (116, 780, 357), (116, 807, 355), (117, 768, 249), (117, 769, 250), (117, 770, 251),
  (117, 771, 361), (117, 772, 363), (117, 774, 365), (117, 776, 252), (117, 777, 7911), (117, 778, 367), (117, 779, 369), (117, 795, 432), (117, 803, 7909),
  (117, 808, 371), (119, 770, 373), (121, 768, 7923), (121, 769, 253), (121, 770, 375), (121, 771, 7929), (121, 776, 255), (121, 777, 7927), (121, 803, 7925),
  (122, 769, 378), (122, 775, 380), (122, 780, 382), (194, 768, 7846), (194, 769, 7844), (194, 771, 7850), (194, 777, 7848), (202, 768, 7872), (202, 769, 7870),
  (202, 771, 7876), (202, 777, 7874), (212, 768, 7890), (212, 769, 7888), (212, 771, 7894), (212, 777, 7892), (226, 768, 7847), (226, 769, 7845), (226, 771, 7851),
  (226, 777, 7849), (234, 768, 7873), (234, 769, 7871), (234, 771, 7877), (234, 777, 7875), (244, 768, 7891), (244, 769, 7889), (244, 771, 7895), (244, 777, 7893),
  (258, 768, 7856), (258, 769, 7854), (258, 771, 7860), (258, 777, 7858), (259, 768, 7857), (259, 769, 7855), (259, 771, 7861), (259, 777, 7859), (416, 768, 7900),
  (416, 769, 7898), (416, 771, 7904), (416, 777, 7902), (416, 803, 7906), (417, 768, 7901), (417, 769, 7899), (417, 771, 7905), (417, 777, 7903), (417, 803, 7907),
  (431, 768, 7914), (431, 769, 7912), (431, 771, 7918), (431, 777, 7916), (431, 803, 7920), (432, 768, 7915), (432, 769, 7913), (432, 771, 7919), (432, 777, 7917),
  (432, 803, 7921), (913, 769, 902), (917, 769, 904), (919, 769, 905), (921, 769, 906), (921, 776, 938), (927, 769, 908), (933, 769, 910), (933, 776, 939),
  (937, 769, 911), (945, 769, 940), (949, 769, 941), (951, 769, 942), (953, 769, 943), (953, 776, 970), (959, 769, 972), (965, 769, 973), (965, 776, 971),
  (969, 769, 974), (970, 769, 912), (971, 769, 944), (7840, 770, 7852), (7840, 774, 7862), (7841, 770, 7853), (7841, 774, 7863), (7864, 770, 7878), (7865, 770, 7879),
  (7884, 770, 7896), (7885, 770, 7897), (12363, 12441, 12364), (12365, 12441, 12366), (12367, 12441, 12368), (12369, 12441, 12370), (12371, 12441, 12372),
  (12373, 12441, 12374), (12375, 12441, 12376), (12377, 12441, 12378), (12379, 12441, 12380), (12381, 12441, 12382), (12383, 12441, 12384), (12385, 12441, 12386),
  (12388, 12441, 12389), (12390, 12441, 12391), (12392, 12441, 12393), (12399, 12441, 12400), (12459, 12441, 12460), (12461, 12441, 12462), (12463, 12441, 12464),
  (12465, 12441, 12466), (12467, 12441, 12468), (12469, 12441, 12470), (12471, 12441, 12472), (12473, 12441, 12474), (12475, 12441, 12476), (12477, 12441, 12478),
  (12479, 12441, 12480), (12481, 12441, 12482), (12484, 12441, 12485), (12486, 12441, 12487), (12488, 12441, 12489), (12495, 12441, 12496)]

/-- the first row of two numbers, and the first row of what they are -/
def lookJ : List (Int × Int × Int) → Int → Int → Option Int
  | [], _, _ => none
  | s :: t, a, b => if s.1 = a ∧ s.2.1 = b then some s.2.2 else lookJ t a b
def lookB : List (Int × Int × Int) → Int → Option (Int × Int)
  | [], _ => none
  | s :: t, r => if s.2.2 = r then some (s.1, s.2.1) else lookB t r

theorem lookJ_mem {l : List (Int × Int × Int)} {a b x : Int} (h : lookJ l a b = some x) : (a, b, x) ∈ l := by
  induction l with
  | nil => cases h
  | cons s t ih =>
    unfold lookJ at h
    split at h
    · rename_i hh
      obtain ⟨rfl, rfl⟩ := hh
      obtain rfl : x = s.2.2 := by simpa using h.symm
      exact List.mem_cons_self ..
    · exact List.mem_cons_of_mem _ (ih h)

theorem lookB_mem {l : List (Int × Int × Int)} {r a b : Int} (h : lookB l r = some (a, b)) : (a, b, r) ∈ l := by
  induction l with
  | nil => cases h
  | cons s t ih =>
    unfold lookB at h
    split at h
    · rename_i hh
      subst hh
      have h' : s.1 = a ∧ s.2.1 = b := by simpa using h
      obtain ⟨rfl, rfl⟩ := h'
      exact List.mem_cons_self ..
    · exact List.mem_cons_of_mem _ (ih h)

theorem lookJ_none {l : List (Int × Int × Int)} {a b : Int} (h : ∀ s ∈ l, ¬ (s.1 = a ∧ s.2.1 = b)) : lookJ l a b = none := by
  induction l with
  | nil => rfl
  | cons s t ih =>
    unfold lookJ
    rw [if_neg (h s (List.mem_cons_self ..))]
    exact ih fun x hx => h x (List.mem_cons_of_mem _ hx)

theorem lookB_none {l : List (Int × Int × Int)} {r : Int} (h : ∀ s ∈ l, s.2.2 ≠ r) : lookB l r = none := by
  induction l with
  | nil => rfl
  | cons s t ih =>
    unfold lookB
    rw [if_neg (h s (List.mem_cons_self ..))]
    exact ih fun x hx => h x (List.mem_cons_of_mem _ hx)

theorem lookB_of_mem {l : List (Int × Int × Int)} (hp : l.Pairwise (fun s t => s.2.2 ≠ t.2.2)) {a b x : Int} (h : (a, b, x) ∈ l) : lookB l x = some (a, b) := by
  induction l with
  | nil => cases h
  | cons s t ih =>
    unfold lookB
    rcases List.mem_cons.1 h with rfl | h
    · rw [if_pos rfl]
    · rw [if_neg ((List.pairwise_cons.1 hp).1 _ h)]
      exact ih (List.pairwise_cons.1 hp).2 h

theorem lookJ_of_mem {l : List (Int × Int × Int)} (hp : l.Pairwise (fun s t => ¬ (s.1 = t.1 ∧ s.2.1 = t.2.1))) {a b x : Int} (h : (a, b, x) ∈ l) : lookJ l a b = some x := by
  induction l with
  | nil => cases h
  | cons s t ih =>
    unfold lookJ
    rcases List.mem_cons.1 h with rfl | h
    · rw [if_pos ⟨rfl, rfl⟩]
    · rw [if_neg ((List.pairwise_cons.1 hp).1 _ h)]
      exact ih (List.pairwise_cons.1 hp).2 h

theorem apartB : T.Pairwise (fun s t => s.2.2 ≠ t.2.2) := by decide +kernel
theorem apartJ : T.Pairwise (fun s t => ¬ (s.1 = t.1 ∧ s.2.1 = t.2.1)) := by decide +kernel

def LV (a b : Int) : Prop := 0x1100 ≤ a ∧ a ≤ 0x1112 ∧ 0x1161 ≤ b ∧ b ≤ 0x1175
def LVT (a b : Int) : Prop := 0xAC00 ≤ a ∧ a ≤ 0xD7A3 ∧ (a - 0xAC00) % 28 = 0 ∧ 0x11A8 ≤ b ∧ b ≤ 0x11C2
def Syl (r : Int) : Prop := 0xAC00 ≤ r ∧ r ≤ 0xD7A3
instance (a b : Int) : Decidable (LV a b) := inferInstanceAs (Decidable (_ ∧ _))
instance (a b : Int) : Decidable (LVT a b) := inferInstanceAs (Decidable (_ ∧ _))
instance (r : Int) : Decidable (Syl r) := inferInstanceAs (Decidable (_ ∧ _))

def joinI (a b : Int) : Option Int := if LV a b then some (0xAC00 + ((a - 0x1100) * 21 + (b - 0x1161)) * 28) else if LVT a b then some (a + b - 0x11A7) else lookJ T a b
def sylB (s : Int) : Int × Int := if s % 28 = 0 then (0x1100 + s / 588, 0x1161 + s % 588 / 28) else (0xAC00 + s - s % 28, 0x11A7 + s % 28)
def backI (r : Int) : Option (Int × Int) := if Syl r then some (sylB (r - 0xAC00)) else lookB T r

/-- the rows are far from syllables and their parts -/
theorem rows_far : ∀ s ∈ T, 0x41 ≤ s.1 ∧ s.1 < 0xAC00 ∧ (s.1 < 0x1100 ∨ 0x1112 < s.1) ∧ 0x300 ≤ s.2.1 ∧ (s.2.1 ≤ 0x36F ∨ s.2.1 = 0x3099) ∧ 0xC0 ≤ s.2.2 ∧ s.2.2 < 0xAC00 ∧ s.2.2 ≠ s.1 ∧ s.2.2 ≠ s.2.1 := by decide +kernel

theorem join_pos {a b x : Int} (h : joinI a b = some x) : 0 < x := by
  unfold joinI at h
  by_cases h1 : LV a b
  · rw [if_pos h1] at h
    unfold LV at h1
    have e : x = 0xAC00 + ((a - 0x1100) * 21 + (b - 0x1161)) * 28 := by simpa using h.symm
    omega
  rw [if_neg h1] at h
  by_cases h2 : LVT a b
  · rw [if_pos h2] at h
    unfold LVT at h2
    have e : x = a + b - 0x11A7 := by simpa using h.symm
    omega
  · rw [if_neg h2] at h
    have hf := rows_far _ (lookJ_mem h)
    dsimp only at hf
    omega

/-- what two values are together is these two -/
theorem join_back {a b x : Int} (h : joinI a b = some x) : backI x = some (a, b) ∧ x ≠ a ∧ x ≠ b := by
  unfold joinI at h
  by_cases h1 : LV a b
  · rw [if_pos h1] at h
    unfold LV at h1
    have e : x = 0xAC00 + ((a - 0x1100) * 21 + (b - 0x1161)) * 28 := by simpa using h.symm
    refine ⟨?_, by omega, by omega⟩
    unfold backI
    rw [if_pos (show Syl x by unfold Syl; omega)]
    unfold sylB
    rw [if_pos (by omega)]
    have e1 : 0x1100 + (x - 0xAC00) / 588 = a := by omega
    have e2 : 0x1161 + (x - 0xAC00) % 588 / 28 = b := by omega
    rw [e1, e2]
  rw [if_neg h1] at h
  by_cases h2 : LVT a b
  · rw [if_pos h2] at h
    unfold LVT at h2
    have e : x = a + b - 0x11A7 := by simpa using h.symm
    refine ⟨?_, by omega, by omega⟩
    unfold backI
    rw [if_pos (show Syl x by unfold Syl; omega)]
    unfold sylB
    rw [if_neg (by omega)]
    have e1 : 0xAC00 + (x - 0xAC00) - (x - 0xAC00) % 28 = a := by omega
    have e2 : 0x11A7 + (x - 0xAC00) % 28 = b := by omega
    rw [e1, e2]
  · rw [if_neg h2] at h
    have hm := lookJ_mem h
    have hf := rows_far _ hm
    dsimp only at hf
    refine ⟨?_, by omega, by omega⟩
    unfold backI
    rw [if_neg (show ¬ Syl x by unfold Syl; omega)]
    exact lookB_of_mem apartB hm

theorem back_join {a b r : Int} (h : backI r = some (a, b)) : joinI a b = some r := by
  unfold backI at h
  by_cases h1 : Syl r
  · rw [if_pos h1] at h
    unfold Syl at h1
    unfold sylB at h
    by_cases h2 : (r - 0xAC00) % 28 = 0
    · rw [if_pos h2] at h
      have e : 0x1100 + (r - 0xAC00) / 588 = a ∧ 0x1161 + (r - 0xAC00) % 588 / 28 = b := by simpa using h
      unfold joinI
      rw [if_pos (show LV a b by unfold LV; omega)]
      congr 1
      omega
    · rw [if_neg h2] at h
      have e : 0xAC00 + (r - 0xAC00) - (r - 0xAC00) % 28 = a ∧ 0x11A7 + (r - 0xAC00) % 28 = b := by simpa using h
      unfold joinI
      rw [if_neg (show ¬ LV a b by unfold LV; omega), if_pos (show LVT a b by unfold LVT; omega)]
      congr 1
      omega
  · rw [if_neg h1] at h
    have hm := lookB_mem h
    have hf := rows_far _ hm
    dsimp only at hf
    unfold joinI
    rw [if_neg (show ¬ LV a b by unfold LV; omega), if_neg (show ¬ LVT a b by unfold LVT; omega)]
    exact lookJ_of_mem apartJ hm

/-- what two values are is made of what these are made of -/
theorem rows_made : ∀ s ∈ T, Dcp.fullI s.2.2 = Dcp.fullI s.1 ++ Dcp.fullI s.2.1 ∧ Prp.mrkB s.1 = false ∧ Dcp.fullI s.2.1 = [s.2.1] ∧ Prp.mrkB s.2.1 = true ∧ Dcp.fullI s.2.2 ≠ [s.2.2] ∧ Prp.mrkB s.2.2 = false := by decide +kernel

end Go.Proofs.YtkhjkodeolaemaaDoor.Par
