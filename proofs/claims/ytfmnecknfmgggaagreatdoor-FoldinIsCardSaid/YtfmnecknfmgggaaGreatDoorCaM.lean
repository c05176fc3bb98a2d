/- Layer 6, plain mathematics: values without their case. -/
import Derived.Test.YtfmnecknfmgggaaGreatDoorMthP
import Derived.Test.YtfmnecknfmgggaaGreatDoorM0
namespace Go.Proofs.YtfmnecknfmgggaaGreatDoor.Cas
set_option linter.unusedSimpArgs false
set_option linter.unusedVariables false

def T : List (Int × List Int) := [
  (65, [97]), (66, [98]), (67, [99]), (68, [100]), (69, [101]), (70, [102]), (71, [103]), (72, [104]), (73, [105]), (74, [106]), (75, [107]), (76, [108]), (77, [109]),
  (78, [110]), (79, [111]), (80, [112]), (81, [113]), (82, [114]), (83, [115]), (84, [116]), (85, [117]), (86, [118]), (87, [119]), (88, [120]), (89, [121]), (90, [122]),
  (181, [956]), (192, [224]), (193, [225]), (194, [226]), (195, [227]), (196, [228]), (197, [229]), (198, [230]), (199, [231]), (200, [232]), (201, [233]), (202, [234]),
  (203, [235]), (204, [236]), (205, [237]), (206, [238]), (207, [239]), (208, [240]), (209, [241]), (210, [242]), (211, [243]), (212, [244]), (213, [245]), (214, [246]),
  (216, [248]), (217, [249]), (218, [250]), (219, [251]), (220, [252]), (221, [253]), (222, [254]), (223, [115, 115]), (256, [257]), (258, [259]), (260, [261]),
  (262, [263]), (264, [265]), (266, [267]), (268, [269]), (270, [271]), (272, [273]), (274, [275]), (276, [277]), (278, [279]), (280, [281]), (282, [283]), (284, [285]),
  (286, [287]), (288, [289]), (290, [291]), (292, [293]), (294, [295]), (296, [297]), (298, [299]), (300, [301]), (302, [303]), (304, [105, 775]), (306, [307]),
  (308, [309]), (310, [311]), (313, [314]), (315, [316]), (317, [318]), (319, [320]), (321, [322]), (323, [324]), (325, [326]), (327, [328]), (329, [700, 110]),
  (330, [331]), (332, [333]), (334, [335]), (336, [337]), (338, [339]), (340, [341]), (342, [343]), (344, [345]), (346, [347]), (348, [349]), (350, [351]), (352, [353]),
  (354, [355]), (356, [357]), (358, [359]), (360, [361]), (362, [363]), (364, [365]), (366, [367]), (368, [369]), (370, [371]), (372, [373]), (374, [375]), (376, [255]),
  (377, [378]), (379, [380]), (381, [382]), (383, [115]), (416, [417]), (418, [419]), (420, [421]), (422, [640]), (423, [424]), (425, [643]), (428, [429]), (430, [648]),
  (431, [432]), (837, [953]), (902, [940]), (904, [941]), (905, [942]), (906, [943]), (908, [972]), (910, [973]), (911, [974]), (912, [953, 776, 769]), (913, [945]),
  (914, [946]), (915, [947]), (916, [948]), (917, [949]), (918, [950]), (919, [951]), (920, [952]), (921, [953]), (922, [954]), (923, [955]), (924, [956]), (925, [957]),
  (926, [958]), (927, [959]), (928, [960]), (929, [961]), (931, [963]), (932, [964]), (933, [965]), (934, [966]), (935, [967]), (936, [968]), (937, [969]), (938, [970]),
  (939, [971]), (944, [965, 776, 769]), (962, [963]), (7840, [7841]), (7842, [7843]), (7844, [7845]), (7846, [7847]), (7848, [7849]), (7850, [7851]), (7852, [7853]),
  (7854, [7855]), (7856, [7857]), (7858, [7859]), (7860, [7861]), (7862, [7863]), (7864, [7865]), (7866, [7867]), (7868, [7869]), (7870, [7871]), (7872, [7873]),
  (7874, [7875]), (7876, [7877]), (7878, [7879]), (7880, [7881]), (7882, [7883]), (7884, [7885]), (7886, [7887]), (7888, [7889]), (7890, [7891]), (7892, [7893]),
  (7894, [7895]), (7896, [7897]), (7898, [7899]), (7900, [7901]), (7902, [7903]), (7904, [7905]), (7906, [7907]), (7908, [7909]), (7910, [7911]), (7912, [7913]),
  (7914, [7915]), (7916, [7917]), (7918, [7919]), (7920, [7921]), (7922, [7923]), (7924, [7925]), (7926, [7927]), (7928, [7929])]

def foldI (r : Int) : List Int := (Lk.look T r).getD [r]

theorem fold_self {r : Int} (h : ∀ s ∈ T, s.1 ≠ r) : foldI r = [r] := by unfold foldI; rw [Lk.look_none h]; rfl

theorem parts_far : ∀ s ∈ T, ∀ x ∈ s.2, ∀ t ∈ T, t.1 ≠ x := by decide +kernel

theorem fold_cases (r : Int) : foldI r = [r] ∨ (r, foldI r) ∈ T := by
  cases e : Lk.look T r with
  | none => left; unfold foldI; rw [e]; rfl
  | some p =>
    right
    have h : foldI r = p := by unfold foldI; rw [e]; rfl
    rw [h]
    exact Lk.look_mem e

/-- what is folded is folded once -/
theorem fold_once (r : Int) : ∀ x ∈ foldI r, foldI x = [x] := by
  intro x hx
  rcases fold_cases r with h | h
  · rw [h] at hx
    obtain rfl : x = r := by simpa using hx
    exact h
  · exact fold_self (parts_far _ h x hx)

theorem rows_len : ∀ s ∈ T, 1 ≤ s.2.length ∧ s.2.length ≤ 3 := by decide +kernel
theorem fold_len (r : Int) : 1 ≤ (foldI r).length ∧ (foldI r).length ≤ 3 := by
  rcases fold_cases r with h | h
  · rw [h]; simp
  · exact rows_len _ h

theorem rows_good : ∀ s ∈ T, ∀ x ∈ s.2, Dec.goodB x = true := by decide +kernel
theorem fold_good {r : Int} (hg : Dec.goodB r = true) : ∀ x ∈ foldI r, Dec.goodB x = true := by
  intro x hx
  rcases fold_cases r with h | h
  · rw [h] at hx
    obtain rfl : x = r := by simpa using hx
    exact hg
  · exact rows_good _ h x hx

/-- all of them -/
def allI (l : List Int) : List Int := l.flatMap foldI

theorem all_nil : allI [] = [] := rfl
theorem all_append (a b : List Int) : allI (a ++ b) = allI a ++ allI b := by unfold allI; rw [List.flatMap_append]
theorem all_snoc (l : List Int) (r : Int) : allI (l ++ [r]) = allI l ++ foldI r := by rw [all_append]; simp [allI]
theorem all_len (l : List Int) : l.length ≤ (allI l).length ∧ (allI l).length ≤ 3 * l.length := by
  induction l with
  | nil => simp [allI]
  | cons r l ih =>
    have h := fold_len r
    have e : allI (r :: l) = foldI r ++ allI l := rfl
    rw [e, List.length_append, List.length_cons]
    omega
theorem all_of_once {l : List Int} (h : ∀ x ∈ l, foldI x = [x]) : allI l = l := by
  induction l with
  | nil => rfl
  | cons r l ih =>
    have e : allI (r :: l) = foldI r ++ allI l := rfl
    rw [e, h r (List.mem_cons_self ..), ih fun x hx => h x (List.mem_cons_of_mem _ hx)]
    rfl
theorem all_fold (r : Int) : allI (foldI r) = foldI r := all_of_once (fold_once r)

theorem ascii_all : ∀ k : Fin 128, foldI (k.1 : Int) = if 65 ≤ k.1 ∧ k.1 ≤ 90 then [(k.1 : Int) + 32] else [(k.1 : Int)] := by decide +kernel
theorem ascii (r : Int) (h0 : 0 ≤ r) (h1 : r < 128) : foldI r = if 65 ≤ r ∧ r ≤ 90 then [r + 32] else [r] := by
  have h := ascii_all ⟨r.toNat, by omega⟩
  simp only [show ((r.toNat : Nat) : Int) = r by omega] at h
  rw [h]
  by_cases h2 : 65 ≤ r ∧ r ≤ 90
  · rw [if_pos h2, if_pos (by omega)]
  · rw [if_neg h2, if_neg (by omega)]

/-- capitals are thirty-two ahead -/
def cap (k : Nat) : Int := if 57 ≤ k then 0x391 + (k : Int) - 57 else if 26 ≤ k then 0xC0 + (k : Int) - 26 else 65 + (k : Int)
theorem letters_all : ∀ k : Fin 84, if cap k.1 = 0xD7 ∨ cap k.1 = 0x3A2 then foldI (cap k.1) = [cap k.1] else (foldI (cap k.1) = [cap k.1 + 32] ∧ foldI (cap k.1 + 32) = [cap k.1 + 32]) := by decide +kernel

end Go.Proofs.YtfmnecknfmgggaaGreatDoor.Cas
