/- Layer 6, plain mathematics: the code's tables, in parts, and what the numbers in them hold. -/
import Derived.Test.YtfmnecknfmgggaaGreatDoorCaM
import Derived.Test.YtfmnecknfmgggaaGreatDoorMp
namespace Go.Proofs.YtfmnecknfmgggaaGreatDoor.Cas
set_option linter.unusedSimpArgs false
set_option linter.unusedVariables false

def latinT : List (Int × Int) := [
  (65, 97), (66, 98), (67, 99), (68, 100), (69, 101), (70, 102), (71, 103), (72, 104), (73, 105), (74, 106), (75, 107), (76, 108), (77, 109), (78, 110), (79, 111), (80, 112),
  (81, 113), (82, 114), (83, 115), (84, 116), (85, 117), (86, 118), (87, 119), (88, 120), (89, 121), (90, 122), (181, 956), (192, 224), (193, 225), (194, 226), (195, 227),
  (196, 228), (197, 229), (198, 230), (199, 231), (200, 232), (201, 233), (202, 234), (203, 235), (204, 236), (205, 237), (206, 238), (207, 239), (208, 240), (209, 241),
  (210, 242), (211, 243), (212, 244), (213, 245), (214, 246), (216, 248), (217, 249), (218, 250), (219, 251), (220, 252), (221, 253), (222, 254), (223, 7536755)]
def latinFurtherT : List (Int × Int) := [
  (256, 257), (258, 259), (260, 261), (262, 263), (264, 265), (266, 267), (268, 269), (270, 271), (272, 273), (274, 275), (276, 277), (278, 279), (280, 281), (282, 283),
  (284, 285), (286, 287), (288, 289), (290, 291), (292, 293), (294, 295), (296, 297), (298, 299), (300, 301), (302, 303), (304, 6882055), (306, 307), (308, 309), (310, 311),
  (313, 314), (315, 316), (317, 318), (319, 320), (321, 322), (323, 324), (325, 326), (327, 328), (329, 45875310), (330, 331), (332, 333), (334, 335), (336, 337), (338, 339),
  (340, 341), (342, 343), (344, 345), (346, 347), (348, 349), (350, 351), (352, 353), (354, 355), (356, 357), (358, 359), (360, 361), (362, 363), (364, 365), (366, 367),
  (368, 369), (370, 371), (372, 373), (374, 375), (376, 255), (377, 378), (379, 380), (381, 382), (383, 115), (416, 417), (418, 419), (420, 421), (422, 640), (423, 424),
  (425, 643), (428, 429), (430, 648), (431, 432)]
def greekT : List (Int × Int) := [
  (837, 953), (902, 940), (904, 941), (905, 942), (906, 943), (908, 972), (910, 973), (911, 974), (912, 4093154689793), (913, 945), (914, 946), (915, 947), (916, 948), (917, 949),
  (918, 950), (919, 951), (920, 952), (921, 953), (922, 954), (923, 955), (924, 956), (925, 957), (926, 958), (927, 959), (928, 960), (929, 961), (931, 963), (932, 964),
  (933, 965), (934, 966), (935, 967), (936, 968), (937, 969), (938, 970), (939, 971), (944, 4144694297345), (962, 963)]
def latinMarkedT : List (Int × Int) := [
  (7840, 7841), (7842, 7843), (7844, 7845), (7846, 7847), (7848, 7849), (7850, 7851), (7852, 7853), (7854, 7855), (7856, 7857), (7858, 7859), (7860, 7861), (7862, 7863),
  (7864, 7865), (7866, 7867), (7868, 7869), (7870, 7871), (7872, 7873), (7874, 7875), (7876, 7877), (7878, 7879), (7880, 7881), (7882, 7883), (7884, 7885), (7886, 7887),
  (7888, 7889), (7890, 7891), (7892, 7893), (7894, 7895), (7896, 7897), (7898, 7899), (7900, 7901), (7902, 7903), (7904, 7905), (7906, 7907), (7908, 7909), (7910, 7911),
  (7912, 7913), (7914, 7915), (7916, 7917), (7918, 7919), (7920, 7921), (7922, 7923), (7924, 7925), (7926, 7927), (7928, 7929)]

/-- the part in which r may stand -/
def partT (r : Int) : List (Int × Int) :=
  if r / 256 = 0 then latinT else if r / 256 = 1 then latinFurtherT else if r / 256 = 3 then greekT else if r / 256 = 30 then latinMarkedT else []

/-- the last of that key -/
def lookR (rows : List (Int × Int)) (k : Int) : Option Int := (rows.reverse.find? fun p => decide (p.1 = k)).map (·.2)

/-- the values that a number holds -/
def valsI (h : Int) : List Int := [h / 4294967296 % 65536, h / 65536 % 65536, h % 65536].filter fun x => decide (0 < x)

theorem rows_ok : ∀ p ∈ latinT ++ latinFurtherT ++ greekT ++ latinMarkedT, (0 ≤ p.2 ∧ p.2 < 281474976710656) ∧ Lk.look T p.1 = some (valsI p.2) := by decide +kernel
theorem rows_all : ∀ s ∈ T, (lookR (partT s.1) s.1).isSome = true := by decide +kernel

theorem part_sub {r : Int} : ∀ p ∈ partT r, p ∈ latinT ++ latinFurtherT ++ greekT ++ latinMarkedT := by
  intro p hp
  unfold partT at hp
  simp only [List.mem_append]
  split at hp
  · exact .inl (.inl (.inl hp))
  · split at hp
    · exact .inl (.inl (.inr hp))
    · split at hp
      · exact .inl (.inr hp)
      · split at hp
        · exact .inr hp
        · cases hp

theorem lookR_mem {rows : List (Int × Int)} {k h : Int} (e : lookR rows k = some h) : (k, h) ∈ rows := by
  unfold lookR at e
  cases hf : rows.reverse.find? fun p => decide (p.1 = k) with
  | none => rw [hf] at e; cases e
  | some p =>
    rw [hf] at e
    simp only [Option.map_some, Option.some.injEq] at e
    have h1 := List.mem_of_find?_eq_some hf
    have h2 := List.find?_some hf
    simp only [decide_eq_true_eq] at h2
    rw [← h2, ← e]
    exact List.mem_reverse.1 h1

theorem fold_code (r : Int) : foldI r = match lookR (partT r) r with | some h => valsI h | none => [r] := by
  cases e : lookR (partT r) r with
  | some h =>
    have h1 := (rows_ok _ (part_sub _ (lookR_mem e))).2
    unfold foldI
    rw [h1]
    rfl
  | none =>
    rcases fold_cases r with h | h
    · exact h
    · have := rows_all _ h
      rw [e] at this
      cases this

theorem code_bd {r h : Int} (e : lookR (partT r) r = some h) : 0 ≤ h ∧ h < 281474976710656 := (rows_ok _ (part_sub _ (lookR_mem e))).1

open Go Go.Maps

theorem find_snoc {rows : List (Int × Int)} {p : Int × Int} {k : Int} : lookR (rows ++ [p]) k = if p.1 = k then some p.2 else lookR rows k := by
  unfold lookR
  rw [List.reverse_append]
  simp only [List.reverse_cons, List.reverse_nil, List.nil_append, List.cons_append, List.find?_cons]
  by_cases h : p.1 = k <;> simp [h]

theorem putAll_isMap (q r : IntKind) (rows : List (Int × Int)) : ∀ (D : DataW Unit), IsMap D → IsMap (putAll q r D rows) := by
  induction rows with
  | nil => intro D h; exact h
  | cons p t ih => intro D h; exact ih _ (h.put _ _)

/-- what the map of these rows tells -/
theorem putAll_at (q r : IntKind) (k : Int) (rows : List (Int × Int)) : (∀ z, (putAll q r (.map []) rows).atKey (.int q k) z = match lookR rows k with | some h => .lit (.int r h) | none => z) ∧
    has (putAll q r (.map []) rows) (.int q k) = (lookR rows k).isSome := by
  have key : ∀ l : List (Int × Int), (∀ z, (putAll q r (.map []) l.reverse).atKey (.int q k) z = match lookR l.reverse k with | some h => .lit (.int r h) | none => z) ∧
      has (putAll q r (.map []) l.reverse) (.int q k) = (lookR l.reverse k).isSome := by
    intro l
    induction l with
    | nil => exact ⟨fun z => rfl, rfl⟩
    | cons p t ih =>
      have hm := putAll_isMap q r t.reverse (.map []) isMap_empty
      have hd : putAll q r (.map []) ((p :: t).reverse) = (putAll q r (.map []) t.reverse).put (.int q p.1) (.lit (.int r p.2)) := by
        unfold putAll
        rw [List.reverse_cons, List.foldl_append]
        rfl
      rw [hd, List.reverse_cons, find_snoc]
      by_cases hk : p.1 = k
      · subst hk
        simp only [if_pos]
        have hkl : WideAt.IsKeyLit (.int q p.1) := by simp [WideAt.IsKeyLit]
        exact ⟨fun z => atKey_put_same hm hkl _ _, has_put_same hm hkl _⟩
      · simp only [if_neg hk]
        have hne : (Lit.int q k) ≠ (Lit.int q p.1) := by
          intro e
          cases e
          exact hk rfl
        exact ⟨fun z => (atKey_put_other hne _ _).trans (ih.1 z), (has_put_other hne _).trans ih.2⟩
  have := key rows.reverse
  rwa [List.reverse_reverse] at this

end Go.Proofs.YtfmnecknfmgggaaGreatDoor.Cas
