/- Layer 4, plain mathematics: what values are made of. -/
import Derived.Test.YtkhjkodeolaemaaDoorPrM
import Derived.Test.YtkhjkodeolaemaaDoorLk
namespace Go.Proofs.YtkhjkodeolaemaaDoor.Dcp
set_option linter.unusedSimpArgs false
set_option linter.unusedVariables false

def T : List (Int × List Int) := [
  (160, [32]), (168, [32, 776]), (170, [97]), (175, [32, 772]), (178, [50]), (179, [51]), (180, [32, 769]), (181, [956]), (184, [32, 807]), (185, [49]), (186, [111]),
  (188, [49, 8260, 52]), (189, [49, 8260, 50]), (190, [51, 8260, 52]), (192, [65, 768]), (193, [65, 769]), (194, [65, 770]), (195, [65, 771]), (196, [65, 776]),
  (197, [65, 778]), (199, [67, 807]), (200, [69, 768]), (201, [69, 769]), (202, [69, 770]), (203, [69, 776]), (204, [73, 768]), (205, [73, 769]), (206, [73, 770]),
  (207, [73, 776]), (209, [78, 771]), (210, [79, 768]), (211, [79, 769]), (212, [79, 770]), (213, [79, 771]), (214, [79, 776]), (217, [85, 768]), (218, [85, 769]),
  (219, [85, 770]), (220, [85, 776]), (221, [89, 769]), (224, [97, 768]), (225, [97, 769]), (226, [97, 770]), (227, [97, 771]), (228, [97, 776]), (229, [97, 778]),
  (231, [99, 807]), (232, [101, 768]), (233, [101, 769]), (234, [101, 770]), (235, [101, 776]), (236, [105, 768]), (237, [105, 769]), (238, [105, 770]),
  (239, [105, 776]), (241, [110, 771]), (242, [111, 768]), (243, [111, 769]), (244, [111, 770]), (245, [111, 771]), (246, [111, 776]), (249, [117, 768]),
  (250, [117, 769]), (251, [117, 770]), (252, [117, 776]), (253, [121, 769]), (255, [121, 776]), (256, [65, 772]), (257, [97, 772]), (258, [65, 774]), (259, [97, 774]),
  (260, [65, 808]), (261, [97, 808]), (262, [67, 769]), (263, [99, 769]), (264, [67, 770]), (265, [99, 770]), (266, [67, 775]), (267, [99, 775]), (268, [67, 780]),
  (269, [99, 780]), (270, [68, 780]), (271, [100, 780]), (274, [69, 772]), (275, [101, 772]), (276, [69, 774]), (277, [101, 774]), (278, [69, 775]), (279, [101, 775]),
  (280, [69, 808]), (281, [101, 808]), (282, [69, 780]), (283, [101, 780]), (284, [71, 770]), (285, [103, 770]), (286, [71, 774]), (287, [103, 774]), (288, [71, 775]),
  (289, [103, 775]), (290, [71, 807]), (291, [103, 807]), (292, [72, 770]), (293, [104, 770]), (296, [73, 771]), (297, [105, 771]), (298, [73, 772]), (299, [105, 772]),
  (300, [73, 774]), (301, [105, 774]), (302, [73, 808]), (303, [105, 808]), (304, [73, 775]), (306, [73, 74]), (307, [105, 106]), (308, [74, 770]), (309, [106, 770]),
  (310, [75, 807]), (311, [107, 807]), (313, [76, 769]), (314, [108, 769]), (315, [76, 807]), (316, [108, 807]), (317, [76, 780]), (318, [108, 780]), (319, [76, 183]),
  (320, [108, 183]), (323, [78, 769]), (324, [110, 769]), (325, [78, 807]), (326, [110, 807]), (327, [78, 780]), (328, [110, 780]), (329, [700, 110]), (332, [79, 772]),
  (333, [111, 772]), (334, [79, 774]), (335, [111, 774]), (336, [79, 779]), (337, [111, 779]), (340, [82, 769]), (341, [114, 769]), (342, [82, 807]), (343, [114, 807]),
  (344, [82, 780]), (345, [114, 780]), (346, [83, 769]), (347, [115, 769]), (348, [83, 770]), (349, [115, 770]), (350, [83, 807]), (351, [115, 807]), (352, [83, 780]),
  (353, [115, 780]), (354, [84, 807]), (355, [116, 807]), (356, [84, 780]), (357, [116, 780]), (360, [85, 771]), (361, [117, 771]), (362, [85, 772]), (363, [117, 772]),
  (364, [85, 774]), (365, [117, 774]), (366, [85, 778]), (367, [117, 778]), (368, [85, 779]), (369, [117, 779]), (370, [85, 808]), (371, [117, 808]), (372, [87, 770]),
  (373, [119, 770]), (374, [89, 770]), (375, [121, 770]), (376, [89, 776]), (377, [90, 769]), (378, [122, 769]), (379, [90, 775]), (380, [122, 775]), (381, [90, 780]),
  (382, [122, 780]), (383, [115]), (416, [79, 795]), (417, [111, 795]), (431, [85, 795]), (432, [117, 795]), (902, [913, 769]), (903, [183]), (904, [917, 769]),
  (905, [919, 769]), (906, [921, 769]), (908, [927, 769]), (910, [933, 769]), (911, [937, 769]), (912, [953, 776, 769]), (938, [921, 776]), (939, [933, 776]),
  (940, [945, 769]), (941, [949, 769]), (942, [951, 769]), (943, [953, 769]), (944, [965, 776, 769]), (970, [953, 776]), (971, [965, 776]), (972, [959, 769]),
  (973, [965, 769]), (974, [969, 769]), (2392, [2325, 2364]), (2393, [2326, 2364]), (2394, [2327, 2364]), (7840, [65, 803]), (7841, [97, 803]), (7842, [65, 777]),
  (7843, [97, 777]), (7844, [65, 770, 769]), (7845, [97, 770, 769]), (7846, [65, 770, 768]), (7847, [97, 770, 768]), (7848, [65, 770, 777]), (7849, [97, 770, 777]),
  (7850, [65, 770, 771]), (7851, [97, 770, 771]), (7852, [65, 803, 770]), (7853, [97, 803, 770]), (7854, [65, 774, 769]), (7855, [97, 774, 769]), (7856, [65, 774, 768]),
  (7857, [97, 774, 768]), (7858, [65, 774, 777]), (7859, [97, 774, 777]), (7860, [65, 774, 771]), (7861, [97, 774, 771]), (7862, [65, 803, 774]), (7863, [97, 803, 774]),
  (7864, [69, 803]), (7865, [101, 803]), (7866, [69, 777]), (7867, [101, 777]), (7868, [69, 771]), (7869, [101, 771]), (7870, [69, 770, 769]), (7871, [101, 770, 769]),
  (7872, [69, 770, 768]), (7873, [101, 770, 768]), (7874, [69, 770, 777]), (7875, [101, 770, 777]), (7876, [69, 770, 771]), (7877, [101, 770, 771]),
  (7878, [69, 803, 770]), (7879, [101, 803, 770]), (7880, [73, 777]), (7881, [105, 777]), (7882, [73, 803]), (7883, [105, 803]), (7884, [79, 803]), (7885, [111, 803]),
  (7886, [79, 777]), (7887, [111, 777]), (7888, [79, 770, 769]), (7889, [111, 770, 769]), (7890, [79, 770, 768]), (7891, [111, 770, 768]), (7892, [79, 770, 777]),
  (7893, [111, 770, 777]), (7894, [79, 770, 771]), (7895, [111, 770, 771]), (7896, [79, 803, 770]), (7897, [111, 803, 770]), (7898, [79, 795, 769]),
  (7899, [111, 795, 769]), (7900, [79, 795, 768]), (7901, [111, 795, 768]), (7902, [79, 795, 777]), (7903, [111, 795, 777]), (7904, [79, 795, 771]),
  (7905, [111, 795, 771]), (7906, [79, 795, 803]), (7907, [111, 795, 803]), (7908, [85, 803]), (7909, [117, 803]), (7910, [85, 777]), (7911, [117, 777]),
  (7912, [85, 795, 769]), (7913, [117, 795, 769]), (7914, [85, 795, 768]), (7915, [117, 795, 768]), (7916, [85, 795, 777]), (7917, [117, 795, 777]),
  (7918, [85, 795, 771]), (7919, [117, 795, 771]), (7920, [85, 795, 803]), (7921, [117, 795, 803]), (7922, [89, 768]), (7923, [121, 768]), (7924, [89, 803]),
  (7925, [121, 803]), (7926, [89, 777]), (7927, [121, 777]), (7928, [89, 771]), (7929, [121, 771]), (8486, [937]), (8488, [90]), (8490, [75]), (8491, [65, 778]),
  (8544, [73]), (8545, [73, 73]), (8546, [73, 73, 73]), (8547, [73, 86]), (8548, [86]), (8549, [86, 73]), (8550, [86, 73, 73]), (8551, [86, 73, 73, 73]),
  (8552, [73, 88]), (8553, [88]), (8554, [88, 73]), (8555, [88, 73, 73]), (8556, [76]), (8557, [67]), (8558, [68]), (8559, [77]), (8560, [105]), (8561, [105, 105]),
  (8562, [105, 105, 105]), (8563, [105, 118]), (8564, [118]), (8565, [118, 105]), (8566, [118, 105, 105]), (8567, [118, 105, 105, 105]), (8568, [105, 120]),
  (8569, [120]), (8570, [120, 105]), (8571, [120, 105, 105]), (8572, [108]), (8573, [99]), (8574, [100]), (8575, [109]), (12364, [12363, 12441]), (12366, [12365, 12441]),
  (12368, [12367, 12441]), (12370, [12369, 12441]), (12372, [12371, 12441]), (12374, [12373, 12441]), (12376, [12375, 12441]), (12378, [12377, 12441]),
  (12380, [12379, 12441]), (12382, [12381, 12441]), (12384, [12383, 12441]), (12386, [12385, 12441]), (12389, [12388, 12441]), (12391, [12390, 12441]),
  (12393, [12392, 12441]), (12400, [12399, 12441]), (12460, [12459, 12441]), (12462, [12461, 12441]), (12464, [12463, 12441]), (12466, [12465, 12441]),
  (12468, [12467, 12441]), (12470, [12469, 12441]), (12472, [12471, 12441]), (12474, [12473, 12441]), (12476, [12475, 12441]), (12478, [12477, 12441]),
  (12480, [12479, 12441]), (12482, [12481, 12441]), (12485, [12484, 12441]), (12487, [12486, 12441]), (12489, [12488, 12441]), (12496, [12495, 12441]),
  (64256, [102, 102]), (64257, [102, 105]), (64258, [102, 108]), (64259, [102, 102, 105]), (64260, [102, 102, 108]), (64261, [115, 116]), (64262, [115, 116])]

def sylL (s : Int) : List Int := if s % 28 = 0 then [0x1100 + s / 588, 0x1161 + s % 588 / 28] else [0x1100 + s / 588, 0x1161 + s % 588 / 28, 0x11A7 + s % 28]

def fullI (r : Int) : List Int :=
  if 0xAC00 ≤ r ∧ r ≤ 0xD7A3 then sylL (r - 0xAC00) else if 0xFF01 ≤ r ∧ r ≤ 0xFF5E then [r - 0xFEE0] else (Lk.look T r).getD [r]

/-- what no row begins with, and is no syllable and not wide, is itself -/
theorem full_self {r : Int} (h1 : ¬ (0xAC00 ≤ r ∧ r ≤ 0xD7A3)) (h2 : ¬ (0xFF01 ≤ r ∧ r ≤ 0xFF5E)) (h3 : ∀ s ∈ T, s.1 ≠ r) : fullI r = [r] := by
  unfold fullI
  rw [if_neg h1, if_neg h2, Lk.look_none h3]
  rfl

theorem keys_far : ∀ s ∈ T, 160 ≤ s.1 ∧ (s.1 < 0x300 ∨ 0x33F < s.1) ∧ (s.1 < 0x1100 ∨ 0x11FF < s.1) ∧ (s.1 < 0xAC00 ∨ 0xD7A3 < s.1) ∧ (s.1 < 0xFF01 ∨ 0xFF5E < s.1) := by decide +kernel

theorem full_ascii {r : Int} (h : r < 160) : fullI r = [r] := full_self (by omega) (by omega) fun s hs e => by have := keys_far s hs; omega
theorem full_jamo {r : Int} (h : 0x1100 ≤ r ∧ r ≤ 0x11FF) : fullI r = [r] := full_self (by omega) (by omega) fun s hs e => by have := keys_far s hs; omega
theorem full_mark {r : Int} (h : 0x300 ≤ r ∧ r ≤ 0x33F) : fullI r = [r] := full_self (by omega) (by omega) fun s hs e => by have := keys_far s hs; omega

/-- the parts of each row are no row's beginning -/
theorem parts_far : ∀ s ∈ T, ∀ x ∈ s.2, (x < 0xAC00 ∨ 0xD7A3 < x) ∧ (x < 0xFF01 ∨ 0xFF5E < x) ∧ ∀ t ∈ T, t.1 ≠ x := by decide +kernel

theorem ccc_jamo {r : Int} (h : 0x1100 ≤ r ∧ r ≤ 0x11FF) : Prp.cccI r = 0 := by
  have c : ∀ s ∈ Prp.classes, s.2.1 < 0x1100 ∨ 0x11FF < s.1 := by decide +kernel
  exact Prp.ccc_zero_of fun s hs => by have := c s hs; omega

theorem full_syl {r : Int} (h : 0xAC00 ≤ r ∧ r ≤ 0xD7A3) : fullI r = sylL (r - 0xAC00) := by unfold fullI; rw [if_pos h]
theorem full_wide {r : Int} (h : 0xFF01 ≤ r ∧ r ≤ 0xFF5E) : fullI r = [r - 0xFEE0] := by unfold fullI; rw [if_neg (by omega), if_pos h]

theorem syl_parts {s : Int} (h0 : 0 ≤ s) (h1 : s < 11172) : ∀ x ∈ sylL s, 0x1100 ≤ x ∧ x ≤ 0x11FF := by
  intro x hx
  unfold sylL at hx
  split at hx
  · simp at hx; omega
  · simp at hx; omega

/-- what something is made of is made of nothing else -/
theorem full_once (r : Int) : ∀ x ∈ fullI r, fullI x = [x] := by
  intro x hx
  by_cases h1 : 0xAC00 ≤ r ∧ r ≤ 0xD7A3
  · rw [full_syl h1] at hx
    exact full_jamo (syl_parts (by omega) (by omega) x hx)
  by_cases h2 : 0xFF01 ≤ r ∧ r ≤ 0xFF5E
  · rw [full_wide h2] at hx
    obtain rfl : x = r - 0xFEE0 := by simpa using hx
    exact full_ascii (by omega)
  cases e : Lk.look T r with
  | none =>
    have h : fullI r = [r] := by unfold fullI; rw [if_neg h1, if_neg h2, e]; rfl
    rw [h] at hx
    obtain rfl : x = r := by simpa using hx
    exact h
  | some p =>
    have h : fullI r = p := by unfold fullI; rw [if_neg h1, if_neg h2, e]; rfl
    rw [h] at hx
    obtain ⟨a, b, c⟩ := parts_far _ (Lk.look_mem e) x hx
    exact full_self (by omega) (by omega) c

theorem rows_len : ∀ s ∈ T, 1 ≤ s.2.length ∧ s.2.length ≤ 4 := by decide +kernel

theorem full_len (r : Int) : 1 ≤ (fullI r).length ∧ (fullI r).length ≤ 4 := by
  by_cases h1 : 0xAC00 ≤ r ∧ r ≤ 0xD7A3
  · rw [full_syl h1]
    unfold sylL
    split <;> simp
  by_cases h2 : 0xFF01 ≤ r ∧ r ≤ 0xFF5E
  · rw [full_wide h2]; simp
  cases e : Lk.look T r with
  | none =>
    have h : fullI r = [r] := by unfold fullI; rw [if_neg h1, if_neg h2, e]; rfl
    rw [h]; simp
  | some p =>
    have h : fullI r = p := by unfold fullI; rw [if_neg h1, if_neg h2, e]; rfl
    rw [h]
    exact rows_len _ (Lk.look_mem e)

/-- marks stand in their order: of each two that stand side by side -/
def inOrder : List Int → Bool
  | a :: b :: t => !(Prp.mrkB a && Prp.mrkB b && decide (Prp.cccI b < Prp.cccI a)) && inOrder (b :: t)
  | _ => true

theorem rows_order : ∀ s ∈ T, inOrder s.2 = true ∧ Prp.mrkB (s.2.headD 0) = false := by decide +kernel

theorem mrk_jamo {r : Int} (h : 0x1100 ≤ r ∧ r ≤ 0x11FF) : Prp.mrkB r = false := by unfold Prp.mrkB; rw [ccc_jamo h]; rfl

theorem full_order (r : Int) : inOrder (fullI r) = true := by
  by_cases h1 : 0xAC00 ≤ r ∧ r ≤ 0xD7A3
  · have hp := syl_parts (s := r - 0xAC00) (by omega) (by omega)
    rw [full_syl h1]
    unfold sylL at hp ⊢
    by_cases h3 : (r - 0xAC00) % 28 = 0
    · rw [if_pos h3] at hp ⊢
      simp only [inOrder]
      rw [mrk_jamo (hp _ (List.mem_cons_self ..))]
      rfl
    · rw [if_neg h3] at hp ⊢
      simp only [inOrder]
      rw [mrk_jamo (hp _ (List.mem_cons_self ..)), mrk_jamo (hp _ (List.mem_cons_of_mem _ (List.mem_cons_self ..)))]
      rfl
  by_cases h2 : 0xFF01 ≤ r ∧ r ≤ 0xFF5E
  · rw [full_wide h2]; rfl
  cases e : Lk.look T r with
  | none =>
    have h : fullI r = [r] := by unfold fullI; rw [if_neg h1, if_neg h2, e]; rfl
    rw [h]; rfl
  | some p =>
    have h : fullI r = p := by unfold fullI; rw [if_neg h1, if_neg h2, e]; rfl
    rw [h]
    exact (rows_order _ (Lk.look_mem e)).1

theorem ccc_low {r : Int} (h : r < 0x300) : Prp.cccI r = 0 := by
  have c : ∀ s ∈ Prp.classes, 0x300 ≤ s.1 := by decide +kernel
  exact Prp.ccc_zero_of fun s hs => by have := c s hs; omega

/-- what is made of something else begins with what is no mark -/
theorem full_head (r : Int) (h : fullI r ≠ [r]) : Prp.mrkB ((fullI r).headD 0) = false := by
  by_cases h1 : 0xAC00 ≤ r ∧ r ≤ 0xD7A3
  · have hp := syl_parts (s := r - 0xAC00) (by omega) (by omega)
    rw [full_syl h1]
    unfold sylL at hp ⊢
    by_cases h3 : (r - 0xAC00) % 28 = 0
    · rw [if_pos h3] at hp ⊢
      exact mrk_jamo (hp _ (List.mem_cons_self ..))
    · rw [if_neg h3] at hp ⊢
      exact mrk_jamo (hp _ (List.mem_cons_self ..))
  by_cases h2 : 0xFF01 ≤ r ∧ r ≤ 0xFF5E
  · rw [full_wide h2]
    show Prp.mrkB (r - 0xFEE0) = false
    unfold Prp.mrkB
    rw [ccc_low (by omega)]
    rfl
  cases e : Lk.look T r with
  | none => exact absurd (by unfold fullI; rw [if_neg h1, if_neg h2, e]; rfl) h
  | some p =>
    have h : fullI r = p := by unfold fullI; rw [if_neg h1, if_neg h2, e]; rfl
    rw [h]
    exact (rows_order _ (Lk.look_mem e)).2

end Go.Proofs.YtkhjkodeolaemaaDoor.Dcp
