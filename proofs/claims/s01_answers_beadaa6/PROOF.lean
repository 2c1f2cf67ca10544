import PyProof.Rows.All
import Wide.All
import OpenK.AllK
import Wide.FinOn
import Open.SpecLaws
import KE.OsGo
import KE.OsRun
import PySem.Challenge.RW_notchcards_s01_answers
import PyVbenaf
import PyProof.EqAt
import PyProof.EqKinds
import PyProof.TupleCall
import HandS.ForSpec
import HandS.TryMany
import HandS.Comp
import HandS.Iter
import HandS.Dict
import HandS.Text
import HandS.More
import HandS.Deep
import HandS.Codes
import HandS.Evl
import HandS.Flow
import HandS.Style
import HandS.ExcInit
import HandS.ExcSuper
import HandS.ExcField
import HandS.WrittenGet
import HandS.ClsMeth
import HandS.CallLocal
import HandS.CallSlots
import KE.KExcInit
import KE.GoesRaise
import HandS.SetFor
import HandS.Strs
import KE.KExcLine
set_option Elab.async false
set_option linter.all false
set_option maxRecDepth 100000
set_option maxHeartbeats 0
/-! The top of the program: k_headS writes out the objects (first.heap_1); nothing else of its head is used, the top is run by the kernel, once for each answer of the one row that is asked. -/
local macro_rules | `(tactic| o_headS $H:term) => `(tactic| assumption)
theorem N.first (given : PySem.Challenge.rw_notchcards_s01_answers.Holds) : PySem.Challenge.rw_notchcards_s01_answers.Holds := by
  k_headS
namespace N
open PySem PySem.W PySem.Calls PyProof.Rows
/-- what the walk sees of the top: the asked def -/
def qv : Program := { PySem.Challenge.pw_notchcards_s01_answers with main := { PySem.Challenge.pw_notchcards_s01_answers.main with body := [PySem.Challenge.pw_notchcards_s01_answers.main.body.getD 104 (.Pass ⟨0, 0, 0, 0⟩)] } }
/-- the other names that the top binds -/
def loose0 : List PySem.Str := ["Refusal", "NotBytes", "OutOfRange", "BadList", "NotThere", "NotAsked", "HoleNotched", "WithoutWay", "TooManyTables", "Fault", "NO_VALUE", "NO_WAY", "NO_END", "Field", "first_field", "more_notched", "notch_count", "LETTERS", "LINE_END", "MOST_HOLES", "MOST_VALUES", "MOST_LETS", "LONGEST_NAME", "sign_of", "words_of", "Words", "take_number", "take_value", "may_be_name", "read_holes"]
def loose1 : List PySem.Str := ["read_names", "read_let", "read_at", "read_field", "state_line", "one_text", "GIVEN", "LISTS", "RANGES", "GREATEST_STATE", "GREATEST_VALUE", "GREATEST_HOLE", "GREATEST_BYTE", "LONGEST_ROW", "GREATEST_LABEL", "parted", "checked_range", "checked_number", "checked_bytes", "checked_row", "checked_labels", "checked", "is_borne", "is_never_passed", "states_not_borne", "states_passed", "behind_any", "may_be", "farthest", "lost_row"]
def loose2 : List PySem.Str := ["MOST_TABLES", "Trial", "table_count", "best_field", "rank_number", "counted", "value_number", "judged", "call_clear", "call_field", "call_look", "call_text", "call_told", "call_value", "call_ways", "call_ranks", "call_go", "call_worst", "call_carry", "call_lower", "call_upper", "call_known", "call_far", "call_may", "call_best", "call_new", "call_change", "call_notch", "call_card", "call_before"]
def loose3 : List PySem.Str := ["DOERS", "answer", "Card", "Desk"]
def loose : List PySem.Str := loose0 ++ (loose1 ++ (loose2 ++ (loose3)))
/-- where the written objects stand -/
def at_0 : List Addr := [2, 3, 15, 22, 24, 25, 27, 28, 29, 30, 31, 32, 35, 42, 44, 45, 47, 48, 49, 50, 51, 54, 61, 63, 64, 66, 67, 68, 69, 70, 73, 80, 82, 83, 85, 86, 87, 88, 89, 92]
def at_1 : List Addr := [99, 101, 102, 104, 105, 106, 107, 108, 111, 118, 120, 121, 123, 124, 125, 126, 127, 130, 137, 139, 140, 142, 143, 144, 145, 146, 149, 156, 158, 159, 161, 162, 163, 164, 165, 168, 175, 177, 178, 180]
def at_2 : List Addr := [181, 182, 183, 184, 187, 194, 196, 197, 199, 200, 201, 202, 203, 213, 216, 217, 218, 220, 221, 223, 224, 225, 227, 228, 230, 231, 232, 235, 236, 237, 239, 240, 242, 243, 244, 247, 248, 249, 252, 253]
def at_3 : List Addr := [254, 257, 258, 259, 261, 262, 264, 265, 266, 268, 269, 271, 272, 273, 275, 276, 278, 279, 280, 282, 283, 285, 286, 287, 289, 290, 292, 293, 294, 296, 297, 299, 300, 301, 303, 304, 306, 307, 308, 309]
def at_4 : List Addr := [310, 311, 312, 315, 317, 318, 320, 321, 322, 325, 326, 327, 329, 330, 332, 333, 334, 336, 337, 339, 340, 341, 343, 344, 346, 347, 355, 358, 359, 360, 362, 363, 365, 366, 367, 369, 370, 372, 373, 374]
def at_5 : List Addr := [376, 377, 379, 380, 381, 382, 383, 384, 385, 388, 391, 392, 393, 395, 396, 398, 399, 400, 402, 403, 405, 406, 407, 409, 410, 412, 413, 414, 416, 417, 419, 420, 421, 423, 424, 426, 427, 428, 430, 431]
def at_6 : List Addr := [433, 434, 435, 437, 438, 440, 441, 442, 445, 446, 447, 450, 451, 452, 453, 454, 455, 456, 457, 458, 459, 460, 461, 462, 463, 464, 465, 466, 467, 468, 469, 471, 472, 473, 474, 475, 476, 477, 478, 479]
def at_7 : List Addr := [480, 481, 483, 484, 486, 487, 488, 490, 491, 493, 494, 495, 497, 498, 500, 501, 502, 504, 505, 507, 508, 509, 511, 512, 514, 515, 516, 518, 519, 521, 522, 523, 525, 526, 528, 529, 530, 533, 534, 535]
def at_8 : List Addr := [538, 539, 540, 543, 544, 545, 548, 549, 550, 552, 553, 555, 556, 557, 559, 560, 562, 563, 564, 567, 568, 569, 571, 572, 574, 575, 576, 583, 586, 587, 588, 590, 591, 593, 594, 595, 596, 597, 600, 602]
def at_9 : List Addr := [603, 605, 606, 607, 609, 610, 612, 613, 614, 616, 617, 619, 620, 621, 623, 624, 626, 627, 628, 630, 631, 633, 634, 635, 637, 638, 640, 641, 642, 644, 645, 647, 648, 649, 651, 652, 654, 655, 656, 658]
def at_10 : List Addr := [659, 661, 662, 663, 665, 666, 668, 669, 670, 672, 673, 675, 676, 677, 679, 680, 682, 683, 684, 686, 687, 689, 690, 691, 694, 695, 696, 698, 699, 701, 702, 703, 705, 706, 708, 709, 710, 712, 713, 715]
def at_11 : List Addr := [716, 717, 719, 720, 722, 723, 724, 726, 727, 729, 730, 731, 733, 734, 736, 737, 738, 740, 741, 743, 744, 745, 747, 748, 750, 751, 752, 755, 756, 757, 759, 760, 762, 763, 764, 766, 767, 769, 770, 771]
def at_12 : List Addr := [773, 774, 776, 777, 778, 780, 781, 783, 784, 785, 787, 788, 790, 791, 792, 794, 797, 798, 806, 808, 809, 811, 812, 813, 815, 816, 818, 819, 820, 822, 823, 825, 826, 827, 828, 829, 830, 831, 841, 843]
def at_13 : List Addr := [844, 846, 847, 848, 850, 851, 853, 854, 855, 857, 858, 860, 861, 862, 863, 864, 865, 866, 869, 871, 872, 874, 875]
def at_ : List Addr := at_0 ++ (at_1 ++ (at_2 ++ (at_3 ++ (at_4 ++ (at_5 ++ (at_6 ++ (at_7 ++ (at_8 ++ (at_9 ++ (at_10 ++ (at_11 ++ (at_12 ++ (at_13)))))))))))))
theorem at_eq (P : Params) : at_ = (first.heap_1 P).map (·.1) := by kernel_rfl
noncomputable abbrev hook : Hook := kHook first.heap_1 at_ at_eq
abbrev lookX (s : Shared) : Bool := xlAt qv [] s && recOk [] s
abbrev RunsAt (w : World) : Prop := ∀ os : OsState, (HeadRun.endF (HeadRun.stepQ (HeadRun.denQ HeadRun.tabQ) PySem.Challenge.pw_notchcards_s01_answers w) 15000 PySem.Challenge.pw_notchcards_s01_answers w os).map
    (fun s => (HeadRun.looksF PySem.Challenge.pw_notchcards_s01_answers (boot_heap w.params) s.abs, HeadRun.seenQ qv loose (importedModules PySem.Challenge.pw_notchcards_s01_answers.main.body) lookX s.abs, at_.map (HeadRun.getT s))) =
  some (true, openGood qv loose, (first.heap_1 w.params).map fun x => some x.2)
theorem run0 (w : World) : RunsAt (w.withFollow "special-get-raises" false) := by
  intro os
  kernel_rfl
theorem run1 (w : World) : RunsAt (w.withFollow "special-get-raises" true) := by
  intro os
  kernel_rfl
theorem left : LeftO PySem.Challenge.pw_notchcards_s01_answers qv loose lookX (Hook.obs hook) (Hook.val hook) 16000 true :=
  HeadRun.left_oneK (M := 15000) (by kernel_rfl) (by rfl) (fun s => by kernel_rfl) (by rfl) fun w os => byRow2 "special-get-raises" (P := RunsAt) run0 run1 w os
end N
/-! Mathematics of the text: signs that no text needs may be taken for one another. -/
namespace NM
open VbenCore Vbenaf
def sg (c : Nat) : Nat := if c = 10 then 10 else if c = 32 then 32 else if 48 ≤ c ∧ c ≤ 57 then c else if 97 ≤ c ∧ c ≤ 122 then c else 63
theorem sg_ne {c : Nat} (h : sg c ≠ 63) : sg c = c := by
  unfold sg at h ⊢
  repeat' split
  all_goals first | omega | skip
  all_goals simp_all
theorem sg_ten (c : Nat) : sg c = 10 ↔ c = 10 := by
  unfold sg
  repeat' split
  all_goals omega
theorem sg_blank (c : Nat) : sg c = 32 ↔ c = 32 := by
  unfold sg
  repeat' split
  all_goals omega
theorem sg_digit (c : Nat) : isDigit (sg c) = isDigit c := by
  unfold sg isDigit
  repeat' split
  all_goals first | rfl | (rw [Bool.eq_iff_iff]; simp only [Bool.and_eq_true, decide_eq_true_eq]; omega)
theorem sg_letter (c : Nat) : isLetter (sg c) = isLetter c := by
  unfold sg isLetter
  repeat' split
  all_goals first | rfl | (rw [Bool.eq_iff_iff]; simp only [Bool.and_eq_true, decide_eq_true_eq]; omega)
theorem sg_of_digit {c : Nat} (h : isDigit c = true) : sg c = c := by
  unfold isDigit at h
  simp only [Bool.and_eq_true, decide_eq_true_eq] at h
  unfold sg
  repeat' split
  all_goals omega
theorem sg_of_letter {c : Nat} (h : isLetter c = true) : sg c = c := by
  unfold isLetter at h
  simp only [Bool.and_eq_true, decide_eq_true_eq] at h
  unfold sg
  repeat' split
  all_goals omega
/-- a word whose signs stay, and none of which is the sign for the others -/
def Plain (b : Bytes) : Prop := ∀ c ∈ b, sg c = c ∧ c ≠ 63
theorem Plain.map {b : Bytes} (hb : Plain b) : b.map sg = b := by
  induction b with
  | nil => rfl
  | cons c r ih =>
    rw [List.map_cons, (hb c (List.mem_cons_self ..)).1, ih fun x hx => hb x (List.mem_cons_of_mem _ hx)]
theorem map_sg_iff : ∀ {w b : Bytes}, Plain b → (w.map sg = b ↔ w = b)
  | [], b, _ => by simp
  | c :: r, [], _ => by simp
  | c :: r, d :: b, hb => by
    have ih := map_sg_iff (w := r) (b := b) fun x hx => hb x (List.mem_cons_of_mem _ hx)
    have hd := hb d (List.mem_cons_self ..)
    rw [List.map_cons, List.cons.injEq, List.cons.injEq, ih]
    constructor
    · rintro ⟨h, e⟩
      refine ⟨?_, e⟩
      have : sg c ≠ 63 := by rw [h]; exact hd.2
      rw [← sg_ne this, h]
    · rintro ⟨h, e⟩
      exact ⟨by rw [h, hd.1], e⟩
theorem beq_sg {w b : Bytes} (hb : Plain b) : (w.map sg == b) = (w == b) := by
  rw [Bool.eq_iff_iff, beq_iff_eq, beq_iff_eq]
  exact map_sg_iff hb
theorem all_digit_sg (w : Bytes) : (w.map sg).all isDigit = w.all isDigit := by
  rw [List.all_map]
  exact congrArg (fun p => w.all p) (funext fun c => sg_digit c)
theorem all_letter_sg (w : Bytes) : (w.map sg).all isLetter = w.all isLetter := by
  rw [List.all_map]
  exact congrArg (fun p => w.all p) (funext fun c => sg_letter c)
theorem digits_sg {w : Bytes} (h : w.all isDigit = true) : w.map sg = w := by
  rw [List.all_eq_true] at h
  exact (List.map_congr_left fun c hc => sg_of_digit (h c hc)).trans (List.map_id _)
theorem letters_sg {w : Bytes} (h : w.all isLetter = true) : w.map sg = w := by
  rw [List.all_eq_true] at h
  exact (List.map_congr_left fun c hc => sg_of_letter (h c hc)).trans (List.map_id _)
theorem letters_plain {w : Bytes} (h : w.all isLetter = true) : Plain w := fun c hc => by
  rw [List.all_eq_true] at h
  have z := h c hc
  refine ⟨sg_of_letter z, ?_⟩
  unfold isLetter at z
  simp only [Bool.and_eq_true, decide_eq_true_eq] at z
  omega
theorem natOf_sg (w : Bytes) : natOf (w.map sg) = natOf w := by
  unfold natOf
  rw [all_digit_sg, List.length_map, List.isEmpty_map]
  by_cases h : w.all isDigit = true
  · rw [digits_sg h]
  · have h' : w.all isDigit = false := by simpa using h
    rw [if_pos (.inr (.inr (.inl h'))), if_pos (.inr (.inr (.inl h')))]
theorem isName_sg (w : Bytes) : isName (w.map sg) = isName w := by
  unfold isName
  rw [all_letter_sg, List.length_map]
theorem name_letters {w : Bytes} (h : isName w = true) : w.all isLetter = true := by
  unfold isName at h
  simp only [Bool.and_eq_true] at h
  exact h.2.2
/-- the words with their signs taken so -/
def sw (ws : List Word) : List Word := ws.map fun x => (x.1, x.2.map sg)
theorem sw_cons (w : Word) (ws : List Word) : sw (w :: ws) = (w.1, w.2.map sg) :: sw ws := rfl
theorem cut_sg : ∀ (t : Bytes) (p : Nat), cut p (t.map sg) = sw (cut p t)
  | [], p => rfl
  | c :: r, p => by
    rw [List.map_cons]
    unfold cut
    by_cases h : c = 32
    · rw [if_pos ((sg_blank c).mpr h), if_pos h, sw_cons, cut_sg r]
      rfl
    · rw [if_neg (fun z => h ((sg_blank c).mp z)), if_neg h]
      by_cases h2 : c = 10
      · rw [if_pos ((sg_ten c).mpr h2), if_pos h2, sw_cons, sw_cons, cut_sg r]
        rfl
      · rw [if_neg (fun z => h2 ((sg_ten c).mp z)), if_neg h2, cut_sg r]
        cases hc : cut (p + 1) r with
        | nil => rfl
        | cons w l => rfl
/-- what a step of the reading gives, with the words behind it taken so -/
def sr {α : Type} (x : Except Nat (α × List Word)) : Except Nat (α × List Word) := x.map fun y => (y.1, sw y.2)
theorem must_sg (e : Nat) {b : Bytes} (hb : Plain b) : ∀ ws : List Word, must e b (sw ws) = (must e b ws).map sw
  | [] => rfl
  | w :: r => by
    rw [sw_cons]
    unfold must
    dsimp only
    by_cases h : w.2 = b
    · rw [if_pos h, if_pos ((map_sg_iff hb).mpr h)]
      rfl
    · rw [if_neg h, if_neg (fun z => h ((map_sg_iff hb).mp z))]
      rfl
theorem placeOf_sg (e : Nat) : ∀ ws : List Word, placeOf e (sw ws) = placeOf e ws
  | [] => rfl
  | _ :: _ => rfl
theorem ahead_sg {b : Bytes} (hb : Plain b) : ∀ ws : List Word, ahead b (sw ws) = ahead b ws
  | [] => rfl
  | w :: _ => beq_sg hb
theorem numIn_sg (e lo hi : Nat) : ∀ ws : List Word, numIn e lo hi (sw ws) = sr (numIn e lo hi ws)
  | [] => rfl
  | w :: r => by
    rw [sw_cons]
    unfold numIn
    dsimp only
    rw [natOf_sg]
    cases natOf w.2 with
    | none => rfl
    | some n =>
      dsimp only
      split <;> rfl
theorem plain_ten : Plain [10] := fun c hc => by
  rw [List.mem_singleton] at hc
  subst hc
  exact ⟨rfl, by decide⟩
theorem plain_of {b : Bytes} (h : b.all (fun c => decide (sg c = c) && decide (c ≠ 63)) = true) : Plain b := fun c hc => by
  rw [List.all_eq_true] at h
  have z := h c hc
  simp only [Bool.and_eq_true, decide_eq_true_eq] at z
  exact z
theorem plain_holes : Plain (W "holes") := plain_of (by decide +kernel)
theorem plain_values : Plain (W "values") := plain_of (by decide +kernel)
theorem plain_is : Plain (W "is") := plain_of (by decide +kernel)
theorem plain_let : Plain (W "let") := plain_of (by decide +kernel)
theorem plain_at : Plain (W "at") := plain_of (by decide +kernel)
theorem ends_sg (ws : List Word) : ends (sw ws) = ends ws := by
  unfold ends
  rw [ahead_sg plain_ten]
  unfold sw
  rw [List.isEmpty_map]
theorem namesIn_sg (e : Nat) : ∀ (g : Nat) (l : List Bytes) (ws : List Word), namesIn e g l (sw ws) = sr (namesIn e g l ws)
  | 0, l, ws => by
    unfold namesIn
    rw [ends_sg, placeOf_sg]
    split <;> rfl
  | g + 1, l, ws => by
    unfold namesIn
    rw [ends_sg]
    by_cases h : ends ws = true ∧ l.isEmpty = false
    · rw [if_pos h, if_pos h]
      rfl
    · rw [if_neg h, if_neg h]
      cases ws with
      | nil => rfl
      | cons w r =>
        rw [sw_cons]
        dsimp only
        rw [isName_sg]
        by_cases hn : isName w.2 = true
        · rw [letters_sg (name_letters hn)]
          split
          · exact namesIn_sg e g _ r
          · rfl
        · rw [if_neg (fun z => hn z.1), if_neg (fun z => hn z.1)]
          rfl
/-- the values' names are names -/
def Named (f : Field) : Prop := ∀ x ∈ f.values, isName x = true
theorem findIdx_sg {l : List Bytes} (hl : ∀ x ∈ l, isName x = true) (w : Bytes) : (l.findIdx? fun x => x == w.map sg) = l.findIdx? fun x => x == w := by
  induction l with
  | nil => rfl
  | cons y l ih =>
    rw [List.findIdx?_cons, List.findIdx?_cons, ih fun x hx => hl x (List.mem_cons_of_mem _ hx)]
    have e : (y == w.map sg) = (y == w) := by
      have z := beq_sg (w := w) (letters_plain (name_letters (hl y (List.mem_cons_self ..))))
      rw [Bool.eq_iff_iff, beq_iff_eq, beq_iff_eq] at z ⊢
      exact ⟨fun q => (z.mp q.symm).symm, fun q => (z.mpr q.symm).symm⟩
    rw [e]
theorem valueIn_sg {f : Field} (hf : Named f) (e : Nat) : ∀ ws : List Word, valueIn f e (sw ws) = sr (valueIn f e ws)
  | [] => rfl
  | w :: r => by
    rw [sw_cons]
    unfold valueIn
    dsimp only
    rw [findIdx_sg hf]
    cases f.values.findIdx? fun x => x == w.2 <;> rfl
theorem holesIn_sg (f : Field) (e : Nat) : ∀ (g lo s : Nat) (ws : List Word), holesIn f e g lo s (sw ws) = sr (holesIn f e g lo s ws)
  | 0, lo, s, ws => rfl
  | g + 1, lo, s, ws => by
    unfold holesIn
    rw [ahead_sg plain_is]
    by_cases h : ahead (W "is") ws = true
    · rw [if_pos h, if_pos h]
      rfl
    · rw [if_neg h, if_neg h]
      cases ws with
      | nil => rfl
      | cons w r =>
        rw [sw_cons]
        dsimp only
        rw [natOf_sg]
        cases natOf w.2 with
        | none => rfl
        | some k =>
          dsimp only
          split
          · exact holesIn_sg f e g _ _ r
          · rfl
theorem lineIn_sg {f : Field} (hf : Named f) (e : Nat) : ∀ ws : List Word, lineIn f e (sw ws) = sr (lineIn f e ws)
  | [] => rfl
  | w :: r => by
    rw [sw_cons]
    unfold lineIn
    dsimp only
    by_cases h1 : w.2 = W "let"
    · rw [if_pos h1, if_pos ((map_sg_iff plain_let).mpr h1)]
      split
      · rfl
      · rw [valueIn_sg hf]
        cases valueIn f e r with
        | error p => rfl
        | ok a =>
          obtain ⟨a, ws1⟩ := a
          show (valueIn f e (sw ws1) >>= _) = sr (valueIn f e ws1 >>= _)
          rw [valueIn_sg hf, placeOf_sg]
          cases valueIn f e ws1 with
          | error p => rfl
          | ok b =>
            obtain ⟨b, ws2⟩ := b
            show (if _ then _ else _) = sr (if _ then _ else _)
            split <;> rfl
    · rw [if_neg h1, if_neg (fun z => h1 ((map_sg_iff plain_let).mp z))]
      by_cases h2 : w.2 = W "at"
      · rw [if_pos h2, if_pos ((map_sg_iff plain_at).mpr h2), holesIn_sg]
        cases holesIn f e f.holes 0 0 r with
        | error p => rfl
        | ok a =>
          obtain ⟨s, ws1⟩ := a
          show (if _ then _ else _) = sr (if _ then _ else _)
          rw [placeOf_sg]
          split
          · rfl
          · rw [must_sg e plain_is]
            cases must e (W "is") ws1 with
            | error p => rfl
            | ok ws2 =>
              show (valueIn f e (sw ws2) >>= _) = sr (valueIn f e ws2 >>= _)
              rw [valueIn_sg hf]
              cases valueIn f e ws2 <;> rfl
      · rw [if_neg h2, if_neg (fun z => h2 ((map_sg_iff plain_at).mp z))]
        rfl
theorem lineIn_values {f f' : Field} {e : Nat} {ws ws' : List Word} (h : lineIn f e ws = .ok (f', ws')) : f'.values = f.values ∧ f'.holes = f.holes := by
  cases ws with
  | nil => cases h
  | cons w r =>
    unfold lineIn at h
    dsimp only at h
    split at h
    · split at h
      · cases h
      · cases h1 : valueIn f e r with
        | error p => rw [h1] at h; cases h
        | ok a =>
          obtain ⟨a, ws1⟩ := a
          rw [h1] at h
          replace h : (valueIn f e ws1 >>= fun (x : Nat × List Word) => if a = x.1 ∨ f.lets.contains (a, x.1) = true then Except.error (placeOf e ws1) else pure ({ f with lets := f.lets ++ [(a, x.1)] }, x.2)) = .ok (f', ws') := h
          cases h2 : valueIn f e ws1 with
          | error p => rw [h2] at h; cases h
          | ok b =>
            rw [h2] at h
            replace h : (if a = b.1 ∨ f.lets.contains (a, b.1) = true then Except.error (placeOf e ws1) else pure ({ f with lets := f.lets ++ [(a, b.1)] }, b.2)) = .ok (f', ws') := h
            split at h
            · cases h
            · cases h
              exact ⟨rfl, rfl⟩
    · split at h
      · cases h1 : holesIn f e f.holes 0 0 r with
        | error p => rw [h1] at h; cases h
        | ok a =>
          obtain ⟨s, ws1⟩ := a
          rw [h1] at h
          replace h : (if (valueOf f s).isSome = true then Except.error (placeOf e ws1) else (must e (W "is") ws1 >>= fun ws => valueIn f e ws >>= fun (x : Nat × List Word) => pure ({ f with table := f.table.set s (some x.1) }, x.2))) = .ok (f', ws') := h
          split at h
          · cases h
          · cases h2 : must e (W "is") ws1 with
            | error p => rw [h2] at h; cases h
            | ok ws2 =>
              rw [h2] at h
              replace h : (valueIn f e ws2 >>= fun (x : Nat × List Word) => pure ({ f with table := f.table.set s (some x.1) }, x.2)) = .ok (f', ws') := h
              cases h3 : valueIn f e ws2 with
              | error p => rw [h3] at h; cases h
              | ok b =>
                rw [h3] at h
                cases h
                exact ⟨rfl, rfl⟩
      · cases h
theorem sw_length (ws : List Word) : (sw ws).length = ws.length := List.length_map ..
theorem linesIn_sg (e : Nat) : ∀ (g : Nat) (f : Field) (ws : List Word), Named f → linesIn e g f (sw ws) = linesIn e g f ws
  | 0, f, ws, _ => by
    unfold linesIn
    rw [placeOf_sg]
  | g + 1, f, ws, hf => by
    unfold linesIn
    have e0 : (sw ws).isEmpty = ws.isEmpty := List.isEmpty_map
    rw [e0, must_sg e plain_ten]
    split
    · rfl
    · cases must e [10] ws with
      | error p => rfl
      | ok ws1 =>
        show (lineIn f e (sw ws1) >>= _) = (lineIn f e ws1 >>= _)
        rw [lineIn_sg hf]
        cases h : lineIn f e ws1 with
        | error p => rfl
        | ok a =>
          obtain ⟨f', ws2⟩ := a
          show linesIn e g f' (sw ws2) = linesIn e g f' ws2
          exact linesIn_sg e g f' ws2 fun x hx => hf x (by rw [← (lineIn_values h).1]; exact hx)
theorem namesIn_names (e : Nat) : ∀ (g : Nat) (l : List Bytes) (ws : List Word) (l' : List Bytes) (ws' : List Word), (∀ x ∈ l, isName x = true) → namesIn e g l ws = .ok (l', ws') → ∀ x ∈ l', isName x = true
  | 0, l, ws, l', ws', hl, h => by
    unfold namesIn at h
    split at h
    · cases h
      exact hl
    · cases h
  | g + 1, l, ws, l', ws', hl, h => by
    unfold namesIn at h
    split at h
    · cases h
      exact hl
    · cases ws with
      | nil => cases h
      | cons w r =>
        dsimp only at h
        split at h
        · rename_i hw
          refine namesIn_names e g _ r l' ws' (fun x hx => ?_) h
          rcases List.mem_append.mp hx with hx | hx
          · exact hl x hx
          · rw [List.mem_singleton] at hx
            rw [hx]
            exact hw.1
        · cases h
theorem readField_sg (t : Bytes) : readField (t.map sg) = readField t := by
  unfold readField
  dsimp only
  rw [List.length_map, cut_sg, must_sg _ plain_holes]
  cases must t.length (W "holes") (cut 0 t) with
  | error p => rfl
  | ok ws =>
    show (numIn t.length 1 HOLES (sw ws) >>= _) = (numIn t.length 1 HOLES ws >>= _)
    rw [numIn_sg]
    cases numIn t.length 1 HOLES ws with
    | error p => rfl
    | ok a =>
      obtain ⟨h, ws⟩ := a
      show (must t.length [10] (sw ws) >>= _) = (must t.length [10] ws >>= _)
      rw [must_sg _ plain_ten]
      cases must t.length [10] ws with
      | error p => rfl
      | ok ws =>
        show (must t.length (W "values") (sw ws) >>= _) = (must t.length (W "values") ws >>= _)
        rw [must_sg _ plain_values]
        cases must t.length (W "values") ws with
        | error p => rfl
        | ok ws =>
          show (namesIn t.length VALUES [] (sw ws) >>= _) = (namesIn t.length VALUES [] ws >>= _)
          rw [namesIn_sg]
          cases hn : namesIn t.length VALUES [] ws with
          | error p => rfl
          | ok a =>
            obtain ⟨l, ws⟩ := a
            show linesIn t.length ((sw ws).length + 1) _ (sw ws) = linesIn t.length (ws.length + 1) _ ws
            rw [sw_length]
            exact linesIn_sg _ _ _ _ (namesIn_names _ _ _ _ _ _ (fun x hx => by cases hx) hn)
end NM
/-! Mathematics of fields: ranks by the greater states, best ways, worst rows. -/
namespace NM
open VbenCore Vbenaf
/-! ### numbers for values and ranks -/
def vI : Option Nat → Int
  | none => -1
  | some n => (n : Int)
def rI : Rank → Int
  | none => 1000
  | some n => (n : Int)
theorem vI_none : vI none = -1 := rfl
theorem vI_some (n : Nat) : vI (some n) = (n : Int) := rfl
theorem vI_eq {a b : Option Nat} : vI a = vI b ↔ a = b := by
  cases a <;> cases b <;> simp [vI] <;> omega
theorem vI_isNone {a : Option Nat} : vI a = -1 ↔ a = none := by
  cases a <;> simp [vI]
/-! ### bits -/
theorem bit_testBit (s h : Nat) : bit s h = s.testBit h := by
  unfold bit
  rw [Nat.testBit_eq_decide_div_mod_eq]
  rw [Bool.eq_iff_iff, beq_iff_eq, decide_eq_true_eq]
theorem within_iff {k s t : Nat} : within k s t = true ↔ ∀ h, h < k → s.testBit h = true → t.testBit h = true := by
  unfold within
  rw [List.all_eq_true]
  constructor
  · intro h x hx hs
    have z := h x (List.mem_range.mpr hx)
    rw [bit_testBit, bit_testBit, hs] at z
    simpa using z
  · intro h x hx
    rw [bit_testBit, bit_testBit]
    cases e : s.testBit x with
    | false => rfl
    | true => rw [h x (List.mem_range.mp hx) e]; rfl
theorem testBit_big {s k h : Nat} (hs : s < 2 ^ k) (hk : k ≤ h) : s.testBit h = false :=
  Nat.testBit_lt_two_pow (Nat.lt_of_lt_of_le hs (Nat.pow_le_pow_right (by decide) hk))
theorem within_and {k s t : Nat} (hs : s < 2 ^ k) : within k s t = true ↔ t &&& s = s := by
  rw [within_iff]
  constructor
  · intro h
    apply Nat.eq_of_testBit_eq
    intro i
    rw [Nat.testBit_and]
    by_cases hi : i < k
    · cases e : s.testBit i with
      | false => rw [Bool.and_false]
      | true => rw [h i hi e]; rfl
    · rw [testBit_big hs (by omega), Bool.and_false]
  · intro h i _ hs'
    have z : (t &&& s).testBit i = s.testBit i := by rw [h]
    rw [Nat.testBit_and, hs', Bool.and_true] at z
    exact z
theorem and_le {s t : Nat} (h : t &&& s = s) : s ≤ t := by
  rw [← h]
  exact Nat.and_le_left
/-- the other states that have all of s's notches, rising -/
def more (f : Field) (s : Nat) : List Nat := (List.range (states f)).filter fun t => t != s && within f.holes s t
theorem ways_more (f : Field) (s w : Nat) : ways f s w = (more f s).filter fun t => valueOf f t == some w := by
  unfold ways more
  rw [List.filter_filter]
  congr 1
  funext t
  cases (t != s) <;> cases (within f.holes s t) <;> cases (valueOf f t == some w) <;> rfl
theorem mem_more {f : Field} {s t : Nat} (hs : s < states f) (h : t ∈ more f s) : s < t ∧ t < states f := by
  unfold more at h
  rw [List.mem_filter, List.mem_range, Bool.and_eq_true, bne_iff_ne] at h
  obtain ⟨h1, h2, h3⟩ := h
  have z := and_le ((within_and hs).mp h3)
  omega
theorem mem_ways {f : Field} {s t w : Nat} (hs : s < states f) (h : t ∈ ways f s w) : s < t ∧ t < states f ∧ valueOf f t = some w := by
  rw [ways_more, List.mem_filter] at h
  have z := mem_more hs h.1
  exact ⟨z.1, z.2, by simpa using h.2⟩
/-- as the program walks them: from s + 1 on -/
theorem more_from (f : Field) {s : Nat} (hs : s < states f) :
    more f s = ((List.range (states f - (s + 1))).map fun i => s + 1 + i).filter fun t => decide (t &&& s = s) := by
  have e : List.range (states f) = List.range (s + 1) ++ (List.range (states f - (s + 1))).map fun i => s + 1 + i := by
    conv => lhs; rw [show states f = (s + 1) + (states f - (s + 1)) by omega]
    exact List.range_add
  unfold more
  rw [e, List.filter_append]
  have e1 : (List.range (s + 1)).filter (fun t => t != s && within f.holes s t) = [] := by
    rw [List.filter_eq_nil_iff]
    intro t ht h
    rw [List.mem_range] at ht
    rw [Bool.and_eq_true, bne_iff_ne] at h
    have z := and_le ((within_and hs).mp h.2)
    omega
  rw [e1, List.nil_append]
  apply List.filter_congr
  intro t ht
  rw [List.mem_map] at ht
  obtain ⟨i, _, rfl⟩ := ht
  rw [Bool.eq_iff_iff, Bool.and_eq_true, bne_iff_ne, within_and hs, decide_eq_true_eq]
  constructor
  · exact fun h => h.2
  · exact fun h => ⟨by omega, h⟩
/-! ### ranks -/
theorem ranksFrom_len (f : Field) : ∀ k, (ranksFrom f k).length = k
  | 0 => rfl
  | k + 1 => by
    show (ranksFrom f k).length + 1 = k + 1
    rw [ranksFrom_len f k]
theorem ranks_len (f : Field) : (ranks f).length = states f := ranksFrom_len f _
theorem ranksFrom_drop (f : Field) : ∀ (j k : Nat), ranksFrom f k = (ranksFrom f (k + j)).drop j
  | 0, k => by rw [List.drop_zero, Nat.add_zero]
  | j + 1, k => by
    show ranksFrom f k = (ranksFrom f (k + j + 1)).drop (j + 1)
    rw [show ranksFrom f (k + j + 1) = rankFrom f (fun t => (ranksFrom f (k + j)).getD (t - (states f - 1 - (k + j)) - 1) none) (states f - 1 - (k + j)) :: ranksFrom f (k + j) from rfl, List.drop_succ_cons]
    exact ranksFrom_drop f j k
theorem ranksFrom_get (f : Field) {k i : Nat} (hk : k ≤ states f) (hi : i < k) : (ranksFrom f k).getD i none = rank f (states f - k + i) := by
  unfold rank ranks
  have e := ranksFrom_drop f (states f - k) k
  rw [show k + (states f - k) = states f by omega] at e
  rw [e, List.getD_eq_getElem?_getD, List.getD_eq_getElem?_getD, List.getElem?_drop]
theorem foldl_congr_mem {α β : Type} {f g : β → α → β} : ∀ {l : List α} {b : β}, (∀ b a, a ∈ l → f b a = g b a) → l.foldl f b = l.foldl g b
  | [], _, _ => rfl
  | a :: l, b, h => by
    rw [List.foldl_cons, List.foldl_cons, h b a (List.mem_cons_self ..)]
    exact foldl_congr_mem fun b a' ha => h b a' (List.mem_cons_of_mem _ ha)
theorem bestWay_congr {f : Field} {r r' : Nat → Rank} {s w : Nat} (hs : s < states f) (h : ∀ t, s < t → t < states f → r t = r' t) : bestWay f r s w = bestWay f r' s w := by
  unfold bestWay
  refine foldl_congr_mem fun b t ht => ?_
  have z := mem_ways hs ht
  rw [h t z.1 z.2.1]
theorem after_congr {f : Field} {r r' : Nat → Rank} {s w : Nat} (hs : s < states f) (h : ∀ t, s < t → t < states f → r t = r' t) : after f r s w = after f r' s w := by
  unfold after
  rw [bestWay_congr hs h]
theorem rankFrom_congr {f : Field} {r r' : Nat → Rank} {s : Nat} (hs : s < states f) (h : ∀ t, s < t → t < states f → r t = r' t) : rankFrom f r s = rankFrom f r' s := by
  unfold rankFrom
  congr 1
  exact List.map_congr_left fun w _ => after_congr hs h
theorem rank_eq {f : Field} {s : Nat} (hs : s < states f) : rank f s = rankFrom f (rank f) s := by
  have e : (ranksFrom f (states f - s)).getD 0 none = rank f s := by
    have z := ranksFrom_get f (k := states f - s) (i := 0) (by omega) (by omega)
    rw [show states f - (states f - s) + 0 = s by omega] at z
    exact z
  rw [← e]
  obtain ⟨k, hk⟩ : ∃ k, states f - s = k + 1 := ⟨states f - s - 1, by omega⟩
  rw [hk]
  show rankFrom f (fun t => (ranksFrom f k).getD (t - (states f - 1 - k) - 1) none) (states f - 1 - k) = _
  rw [show states f - 1 - k = s by omega]
  refine rankFrom_congr hs fun t h1 h2 => ?_
  rw [ranksFrom_get f (by omega) (by omega)]
  congr 1
  omega
/-! ### ranks have few changes -/
theorem bestWay_mem {f : Field} {r : Nat → Rank} {s w : Nat} {x : Rank × Nat} (h : bestWay f r s w = some x) : x.2 ∈ ways f s w ∧ x.1 = r x.2 := by
  have key : ∀ (l : List Nat) (b : Option (Rank × Nat)), (∀ y, b = some y → y.2 ∈ ways f s w ∧ y.1 = r y.2) → (∀ t ∈ l, t ∈ ways f s w) →
      ∀ y, l.foldl (fun b t => match b with
        | none => some (r t, t)
        | some x => if lessRank x.1 (r t) = true then some (r t, t) else b) b = some y → y.2 ∈ ways f s w ∧ y.1 = r y.2 := by
    intro l
    induction l with
    | nil => intro b hb _ y hy; exact hb y hy
    | cons t l ih =>
      intro b hb hl y hy
      rw [List.foldl_cons] at hy
      refine ih _ (fun z hz => ?_) (fun t' ht' => hl t' (List.mem_cons_of_mem _ ht')) y hy
      have ht := hl t (List.mem_cons_self ..)
      cases b with
      | none =>
        cases hz
        exact ⟨ht, rfl⟩
      | some x =>
        dsimp only at hz
        split at hz
        · cases hz
          exact ⟨ht, rfl⟩
        · exact hb z hz
  exact key _ none (fun y hy => by cases hy) (fun t ht => ht) x h
theorem leastRank_mem {l : List Rank} {n : Nat} (h : leastRank l = some n) : some n ∈ l := by
  have key : ∀ (l : List Rank) (a : Rank), l.foldl (fun a b => if lessRank b a = true then b else a) a = some n → a = some n ∨ some n ∈ l := by
    intro l
    induction l with
    | nil => intro a h; exact .inl h
    | cons b l ih =>
      intro a h
      rw [List.foldl_cons] at h
      rcases ih _ h with q | q
      · split at q
        · exact .inr (by rw [q]; exact List.mem_cons_self ..)
        · exact .inl q
      · exact .inr (List.mem_cons_of_mem _ q)
  rcases key l none h with q | q
  · cases q
  · exact q
theorem rank_le {f : Field} : ∀ (k s n : Nat), s < states f → states f ≤ s + k → rank f s = some n → n + s < states f
  | 0, s, n, hs, hk, h => by omega
  | k + 1, s, n, hs, hk, h => by
    rw [rank_eq hs] at h
    have m := leastRank_mem h
    rw [List.mem_map] at m
    obtain ⟨w, _, hw⟩ := m
    unfold after at hw
    cases e : bestWay f (rank f) s w with
    | none =>
      rw [e] at hw
      cases hw
      omega
    | some x =>
      rw [e] at hw
      obtain ⟨hm, hx⟩ := bestWay_mem e
      have hw := mem_ways hs hm
      replace hw' : next x.1 = some n := by assumption
      rw [hx] at hw'
      unfold next at hw'
      cases er : rank f x.2 with
      | none => rw [er] at hw'; cases hw'
      | some r =>
        rw [er] at hw'
        have e2 : r + 1 = n := Option.some.inj hw'
        have ih := rank_le k x.2 r hw.2.1 (by omega) er
        omega
theorem rank_small {f : Field} {s n : Nat} (hs : s < states f) (h : rank f s = some n) : n < states f := by
  have z := rank_le (states f) s n hs (by omega) h
  omega
theorem lessRank_rI {a b : Rank} (ha : ∀ n, a = some n → n < 1000) (hb : ∀ n, b = some n → n < 1000) : lessRank a b = decide (rI a < rI b) := by
  cases a with
  | none =>
    cases b with
    | none => rfl
    | some y =>
      have := hb y rfl
      show false = decide ((1000 : Int) < (y : Int))
      rw [eq_comm, decide_eq_false_iff_not]
      omega
  | some x =>
    have := ha x rfl
    cases b with
    | none =>
      show true = decide ((x : Int) < 1000)
      rw [eq_comm, decide_eq_true_eq]
      omega
    | some y =>
      show decide (x < y) = decide ((x : Int) < (y : Int))
      rw [Bool.eq_iff_iff, decide_eq_true_eq, decide_eq_true_eq]
      omega
theorem rI_inj {a b : Rank} (ha : ∀ n, a = some n → n < 1000) (hb : ∀ n, b = some n → n < 1000) : rI a = rI b ↔ a = b := by
  cases a with
  | none =>
    cases b with
    | none => simp
    | some y =>
      have := hb y rfl
      constructor
      · intro h
        have h : (1000 : Int) = (y : Int) := h
        omega
      · intro h; cases h
  | some x =>
    have := ha x rfl
    cases b with
    | none =>
      constructor
      · intro h
        have h : (x : Int) = 1000 := h
        omega
      · intro h; cases h
    | some y =>
      constructor
      · intro h
        have h : (x : Int) = (y : Int) := h
        have : x = y := by omega
        rw [this]
      · intro h; rw [h]
end NM
/-! Best ways as the program keeps them, what is left, worst rows, rows carried out. -/
namespace NM
open VbenCore Vbenaf
/-- a field as the program knows it -/
structure FBk (f : Field) : Prop where
  h1 : 1 ≤ f.holes
  h6 : f.holes ≤ 6
  tl : f.table.length = states f
  v8 : f.values.length ≤ 8
  tv : ∀ w, some w ∈ f.table → w < f.values.length
  lv : ∀ p ∈ f.lets, p.1 < f.values.length ∧ p.2 < f.values.length ∧ p.1 ≠ p.2
  ll : f.lets.length ≤ 30
/-- .. whose values have names that may be read -/
structure FOk (f : Field) : Prop extends FBk f where
  nm : ∀ x ∈ f.values, isName x = true ∧ x ≠ W "is"
  nd : f.values.Nodup
instance coeFOk {f : Field} : Coe (FOk f) (FBk f) := ⟨FOk.toFBk⟩
theorem FBk.n64 {f : Field} (h : FBk f) : states f ≤ 64 := by
  have z : states f ≤ 2 ^ 6 := Nat.pow_le_pow_right (by decide) h.h6
  simpa using z
theorem FBk.n2 {f : Field} (h : FBk f) : 2 ≤ states f := by
  have z : 2 ^ 1 ≤ states f := Nat.pow_le_pow_right (by decide) h.h1
  simpa using z
theorem FBk.val {f : Field} (h : FBk f) {s w : Nat} (e : valueOf f s = some w) : w < f.values.length := by
  unfold Vbenaf.valueOf at e
  rw [List.getD_eq_getElem?_getD] at e
  cases hg : f.table[s]? with
  | none => rw [hg] at e; cases e
  | some o =>
    rw [hg] at e
    have e : o = some w := e
    subst e
    exact h.tv w (List.mem_of_getElem? hg)
theorem val_get {f : Field} (h : FBk f) {s : Nat} (hs : s < states f) : f.table[s]? = some (valueOf f s) := by
  unfold Vbenaf.valueOf
  rw [List.getD_eq_getElem?_getD, List.getElem?_eq_getElem (by rw [h.tl]; exact hs)]
  rfl
theorem FBk.small {f : Field} (h : FBk f) {s : Nat} (hs : s < states f) : ∀ n, rank f s = some n → n < 64 := fun n e => by
  have z := rank_small hs e
  have y := h.n64
  omega
theorem FBk.small' {f : Field} (h : FBk f) {s : Nat} (hs : s < states f) : ∀ n, rank f s = some n → n < 1000 := fun n e => by
  have z := h.small hs n e
  omega
/-! ### what may be asked, as the program tells it -/
theorem asked_all {f : Field} {v : Option Nat} (hb : (decide (vI v = -1) || decide ((f.lets.length : Int) = 0)) = true) :
    ((List.range f.values.length).filter fun (i : Nat) => !decide ((i : Int) = vI v)) = askedOf f v := by
  unfold askedOf
  refine List.filter_congr fun i _ => ?_
  rw [Bool.or_eq_true, decide_eq_true_eq, decide_eq_true_eq] at hb
  cases v with
  | none =>
    have : ¬ ((i : Int) = vI none) := by show ¬ ((i : Int) = -1); omega
    simp [this]
  | some x =>
    have hl : f.lets.isEmpty = true := by
      rcases hb with hb | hb
      · have hb : (x : Int) = -1 := hb
        omega
      · cases hl : f.lets with
        | nil => rfl
        | cons a b => rw [hl] at hb; simp at hb; omega
    have : ((i : Int) = vI (some x)) ↔ i = x := by show ((i : Int) = (x : Int)) ↔ i = x; omega
    simp only [this, hl, Bool.true_or, Bool.and_true]
    rw [Bool.eq_iff_iff]
    simp
    exact ⟨fun h z => h z.symm, fun h z => h z.symm⟩
theorem asked_some {f : Field} (h : FBk f) {v : Option Nat} (hb : (decide (vI v = -1) || decide ((f.lets.length : Int) = 0)) = false) :
    ((List.range f.values.length).filter fun (i : Nat) => f.lets.any fun l => decide (((l.1 : Int), (l.2 : Int)) = (vI v, (i : Int)))) = askedOf f v := by
  unfold askedOf
  refine List.filter_congr fun i _ => ?_
  rw [Bool.or_eq_false_iff, decide_eq_false_iff_not, decide_eq_false_iff_not] at hb
  cases v with
  | none => exact absurd rfl hb.1
  | some x =>
    have hl : f.lets.isEmpty = false := by
      cases hl : f.lets with
      | nil => rw [hl] at hb; exact absurd rfl hb.2
      | cons a b => rfl
    rw [Bool.eq_iff_iff, List.any_eq_true]
    simp only [hl, Bool.false_or, Bool.and_eq_true, bne_iff_ne, ne_eq, List.contains_iff_mem, decide_eq_true_eq]
    constructor
    · rintro ⟨⟨a, b⟩, hm, hp⟩
      rw [Prod.mk.injEq] at hp
      have h1 : (a : Int) = (x : Int) := hp.1
      have h2 : (b : Int) = (i : Int) := hp.2
      have ea : a = x := by omega
      have eb : b = i := by omega
      subst ea eb
      have z := (h.lv _ hm).2.2
      exact ⟨fun q => z (Option.some.inj q), hm⟩
    · rintro ⟨_, hm⟩
      exact ⟨(x, i), hm, rfl⟩
/-! ### the best ways, from the part of the states that was walked -/
def bstep (f : Field) (b : Option (Rank × Nat)) (t : Nat) : Option (Rank × Nat) := match b with
  | none => some (rank f t, t)
  | some x => if lessRank x.1 (rank f t) = true then some (rank f t, t) else b
def bw (f : Field) (w : Nat) (P : List Nat) : Option (Rank × Nat) := (P.filter fun t => valueOf f t == some w).foldl (bstep f) none
theorem bw_all (f : Field) (s w : Nat) : bestWay f (rank f) s w = bw f w (more f s) := by
  unfold bw bestWay
  rw [ways_more]
  rfl
theorem bw_snoc (f : Field) (w : Nat) (P : List Nat) (t : Nat) : bw f w (P ++ [t]) = if valueOf f t = some w then bstep f (bw f w P) t else bw f w P := by
  unfold bw
  rw [List.filter_append]
  by_cases h : valueOf f t = some w
  · rw [if_pos h]
    have e : [t].filter (fun t => valueOf f t == some w) = [t] := by simp [h]
    rw [e, List.foldl_append]
    rfl
  · rw [if_neg h]
    have e : [t].filter (fun t => valueOf f t == some w) = [] := by simp [h]
    rw [e, List.append_nil]
theorem bw_memF (f : Field) (w : Nat) : ∀ (P : List Nat) {x : Rank × Nat}, bw f w P = some x → x.2 ∈ P.filter (fun t => valueOf f t == some w) ∧ x.1 = rank f x.2 := by
  intro P0
  generalize hP : P0.filter (fun t => valueOf f t == some w) = P
  have key : ∀ (l : List Nat) (b : Option (Rank × Nat)), (∀ y, b = some y → y.2 ∈ P ∧ y.1 = rank f y.2) → (∀ t ∈ l, t ∈ P) →
      ∀ y, l.foldl (bstep f) b = some y → y.2 ∈ P ∧ y.1 = rank f y.2 := by
    intro l
    induction l with
    | nil => intro b hb _ y hy; exact hb y hy
    | cons t l ih =>
      intro b hb hl y hy
      rw [List.foldl_cons] at hy
      refine ih _ (fun z hz => ?_) (fun t' ht' => hl t' (List.mem_cons_of_mem _ ht')) y hy
      have ht := hl t (List.mem_cons_self ..)
      cases b with
      | none =>
        cases hz
        exact ⟨ht, rfl⟩
      | some x =>
        unfold bstep at hz
        dsimp only at hz
        split at hz
        · cases hz
          exact ⟨ht, rfl⟩
        · exact hb z hz
  intro x h
  unfold bw at h
  rw [hP] at h
  exact key _ none (fun y hy => by cases hy) (fun t ht => ht) x h
theorem bw_mem (f : Field) (w : Nat) (P : List Nat) {x : Rank × Nat} (h : bw f w P = some x) : x.2 ∈ P ∧ x.1 = rank f x.2 := ⟨(List.mem_filter.mp (bw_memF f w P h).1).1, (bw_memF f w P h).2⟩
theorem bw_val (f : Field) (w : Nat) (P : List Nat) {x : Rank × Nat} (h : bw f w P = some x) : valueOf f x.2 = some w := by
  have z := (List.mem_filter.mp (bw_memF f w P h).1).2
  simpa using z
/-- the best ways for each value, as numbers -/
def bl (f : Field) (P : List Nat) : List Int := (List.range f.values.length).map fun w => vI ((bw f w P).map (·.2))
theorem bl_len (f : Field) (P : List Nat) : (bl f P).length = f.values.length := by
  unfold bl
  rw [List.length_map, List.length_range]
theorem bl_get {f : Field} {P : List Nat} {w : Nat} (hw : w < f.values.length) : (bl f P)[w]? = some (vI ((bw f w P).map (·.2))) := by
  unfold bl
  rw [List.getElem?_map, List.getElem?_range hw]
  rfl
theorem bl_nil (f : Field) : bl f [] = List.replicate f.values.length (-1) := by
  unfold bl
  rw [← List.length_range (n := f.values.length), ← List.map_const']
  rw [List.length_range]
  rfl
theorem bl_none {f : Field} {P : List Nat} {t : Nat} (h : valueOf f t = none) : bl f (P ++ [t]) = bl f P := by
  unfold bl
  refine List.map_congr_left fun w _ => ?_
  rw [bw_snoc, if_neg (by rw [h]; exact fun z => by cases z)]
theorem bl_set {f : Field} {P : List Nat} {t w : Nat} (h : valueOf f t = some w) (hb : (bstep f (bw f w P) t).map (·.2) = some t) : bl f (P ++ [t]) = (bl f P).set w (t : Int) := by
  apply List.ext_getElem?
  intro i
  by_cases hi : i < f.values.length
  · rw [bl_get hi, bw_snoc]
    by_cases e : i = w
    · subst e
      rw [if_pos h, hb, List.getElem?_set_self (by rw [bl_len]; exact hi)]
      rfl
    · rw [if_neg (by rw [h]; intro z; exact e (Option.some.inj z).symm), List.getElem?_set_ne (fun z => e z.symm), bl_get hi]
  · rw [List.getElem?_eq_none (by rw [bl_len]; omega), List.getElem?_eq_none (by rw [List.length_set, bl_len]; omega)]
theorem bl_keep {f : Field} {P : List Nat} {t w : Nat} (h : valueOf f t = some w) (hb : bstep f (bw f w P) t = bw f w P) : bl f (P ++ [t]) = bl f P := by
  unfold bl
  refine List.map_congr_left fun i _ => ?_
  rw [bw_snoc]
  by_cases e : i = w
  · subst e
    rw [if_pos h, hb]
  · rw [if_neg (by rw [h]; intro z; exact e (Option.some.inj z).symm)]
/-- one state more is walked -/
theorem bl_turn {f : Field} {P : List Nat} {t w : Nat} {b : Int} (hP : ∀ u ∈ P, ∀ n, rank f u = some n → n < 1000) (ht : ∀ n, rank f t = some n → n < 1000) (h : valueOf f t = some w) (hw : w < f.values.length) (hb : (bl f P)[w]? = some b) :
    bl f (P ++ [t]) = if b = -1 ∨ rI (rank f b.toNat) < rI (rank f t) then (bl f P).set w (t : Int) else bl f P := by
  rw [bl_get hw] at hb
  have hb := Option.some.inj hb
  cases e : bw f w P with
  | none =>
    rw [e] at hb
    have : b = -1 := hb.symm
    rw [if_pos (.inl this)]
    exact bl_set h (by rw [e]; rfl)
  | some x =>
    rw [e] at hb
    have hx : b = (x.2 : Int) := hb.symm
    have m := bw_mem f w P e
    have hl := lessRank_rI (a := x.1) (b := rank f t) (by rw [m.2]; exact hP _ m.1) ht
    have e2 : b.toNat = x.2 := by rw [hx]; rfl
    rw [m.2, ← e2] at hl
    by_cases hc : rI (rank f b.toNat) < rI (rank f t)
    · rw [if_pos (.inr hc)]
      refine bl_set h ?_
      rw [e]
      unfold bstep
      dsimp only
      rw [m.2, ← e2, hl, if_pos (decide_eq_true hc)]
      rfl
    · rw [if_neg (fun z => z.elim (fun z => by omega) hc)]
      refine bl_keep h ?_
      rw [e]
      unfold bstep
      dsimp only
      rw [m.2, ← e2, hl, if_neg (by simpa using hc)]
/-- the row of the best ways from a state -/
def bestRow (f : Field) (s : Nat) : List Int := (List.range f.values.length).map fun w => vI (goTo f s w)
theorem bestRow_bl (f : Field) (s : Nat) : bl f (more f s) = bestRow f s := by
  unfold bl bestRow goTo
  refine List.map_congr_left fun w _ => ?_
  rw [bw_all]
theorem bestRow_len (f : Field) (s : Nat) : (bestRow f s).length = f.values.length := by
  unfold bestRow
  rw [List.length_map, List.length_range]
theorem bestRow_get {f : Field} {s w : Nat} (hw : w < f.values.length) : (bestRow f s)[w]? = some (vI (goTo f s w)) := by
  unfold bestRow
  rw [List.getElem?_map, List.getElem?_range hw]
  rfl
theorem goTo_mem {f : Field} {s w t : Nat} (h : goTo f s w = some t) : t ∈ ways f s w := by
  unfold goTo at h
  cases e : bestWay f (rank f) s w with
  | none => rw [e] at h; cases h
  | some x =>
    rw [e] at h
    have z := (bestWay_mem e).1
    cases h
    exact z
/-- what is left if the value is asked -/
theorem after_goTo (f : Field) (s w : Nat) : after f (rank f) s w = match goTo f s w with
  | none => some 0
  | some t => next (rank f t) := by
  unfold after goTo
  cases e : bestWay f (rank f) s w with
  | none => rfl
  | some x =>
    have z := (bestWay_mem e).2
    dsimp only [Option.map]
    rw [z]
theorem rI_next {a : Rank} : rI (next a) = if a = none then 1000 else rI a + 1 := by
  cases a with
  | none => rfl
  | some n =>
    rw [if_neg (by intro h; cases h)]
    show ((n + 1 : Nat) : Int) = (n : Int) + 1
    omega
theorem after_small {f : Field} (h : FBk f) {s w : Nat} (hs : s < states f) : ∀ n, after f (rank f) s w = some n → n < 1000 := fun n e => by
  rw [after_goTo] at e
  cases hg : goTo f s w with
  | none =>
    rw [hg] at e
    cases e
    decide
  | some t =>
    rw [hg] at e
    dsimp only at e
    have m := mem_ways hs (goTo_mem hg)
    cases hr : rank f t with
    | none => rw [hr] at e; cases e
    | some r =>
      rw [hr] at e
      have z := h.small m.2.1 r hr
      have : r + 1 = n := Option.some.inj e
      omega
theorem least_rI : ∀ (l : List Rank) (a : Rank), (∀ n, a = some n → n < 1000) → (∀ b ∈ l, ∀ n, b = some n → n < 1000) →
    rI (l.foldl (fun a b => if lessRank b a = true then b else a) a) = (l.map rI).foldl (fun a b => if b < a then b else a) (rI a)
  | [], _, _, _ => rfl
  | b :: l, a, ha, hl => by
    have hb := hl b (List.mem_cons_self ..)
    rw [List.foldl_cons, List.map_cons, List.foldl_cons, least_rI l _ (by split <;> assumption) fun c hc => hl c (List.mem_cons_of_mem _ hc), lessRank_rI hb ha]
    congr 1
    by_cases hc : rI b < rI a
    · rw [if_pos (decide_eq_true hc), if_pos hc]
    · rw [if_neg (by simpa using hc), if_neg hc]
theorem rank_least {f : Field} (h : FBk f) {s : Nat} (hs : s < states f) : rI (rank f s) = ((asked f s).map fun w => rI (after f (rank f) s w)).foldl (fun a b => if b < a then b else a) 1000 := by
  conv => lhs; rw [rank_eq hs]
  unfold rankFrom leastRank
  rw [least_rI _ _ (fun n e => by cases e) (fun b hb n e => by
    rw [List.mem_map] at hb
    obtain ⟨w, _, rfl⟩ := hb
    exact after_small h hs n e), List.map_map]
  rfl
/-! ### worst rows -/
theorem worst_fuel {f : Field} : ∀ (k k' s : Nat), s < states f → states f ≤ s + k → states f ≤ s + k' → worstRow f k s = worstRow f k' s
  | 0, _, s, hs, hk, _ => by omega
  | _, 0, s, hs, _, hk => by omega
  | k + 1, k' + 1, s, hs, hk, hk' => by
    unfold worstRow
    cases worstAsk f s with
    | none => rfl
    | some w =>
      dsimp only
      cases e : goTo f s w with
      | none => rfl
      | some t =>
        have m := mem_ways hs (goTo_mem e)
        dsimp only
        rw [worst_fuel k k' t m.2.1 (by omega) (by omega)]
def worst (f : Field) (s : Nat) : List Nat := worstRow f (states f) s
theorem worst_eq {f : Field} {s : Nat} (hs : s < states f) : worst f s = match worstAsk f s with
  | none => []
  | some w => match goTo f s w with
    | none => [w]
    | some t => w :: worst f t := by
  unfold worst
  obtain ⟨k, hk⟩ : ∃ k, states f = k + 1 := ⟨states f - 1, by omega⟩
  have e1 : worstRow f (states f) s = worstRow f (k + 1) s := by rw [hk]
  rw [e1]
  unfold worstRow
  cases worstAsk f s with
  | none => rfl
  | some w =>
    dsimp only
    cases e : goTo f s w with
    | none => rfl
    | some t =>
      have m := mem_ways hs (goTo_mem e)
      dsimp only
      rw [worst_fuel k (states f) t m.2.1 (by omega) (by omega)]
      cases hn : states f with
      | zero => omega
      | succ n => rfl
theorem worst_len {f : Field} : ∀ (k s : Nat), (worstRow f k s).length ≤ k
  | 0, _ => Nat.le_refl _
  | k + 1, s => by
    unfold worstRow
    cases worstAsk f s with
    | none => exact Nat.zero_le _
    | some w =>
      dsimp only
      cases goTo f s w with
      | none => exact Nat.succ_le_succ (Nat.zero_le _)
      | some t => exact Nat.succ_le_succ (worst_len k t)
/-! ### rows carried out -/
def behind (f : Field) (s w : Nat) : Option Nat := if valueOf f s = some w then some s else if (asked f s).contains w = false then none else goTo f s w
theorem carry_nil (f : Field) (s : Nat) : carry f s [] = ([], true) := rfl
theorem carry_cons (f : Field) (s w : Nat) (l : List Nat) : carry f s (w :: l) = match behind f s w with
  | none => ([], false)
  | some t => (t :: (carry f t l).1, (carry f t l).2) := by
  conv => lhs; unfold carry
  unfold behind
  by_cases h : valueOf f s = some w
  · rw [if_pos h, if_pos h]
  · rw [if_neg h, if_neg h]
    by_cases h2 : (asked f s).contains w = false
    · rw [if_pos h2, if_pos h2]
    · rw [if_neg h2, if_neg h2]
      cases goTo f s w <;> rfl
theorem carry_len (f : Field) : ∀ (l : List Nat) (s : Nat), (carry f s l).1.length ≤ l.length ∧ ((carry f s l).2 = true ↔ (carry f s l).1.length = l.length)
  | [], s => ⟨Nat.le_refl _, by simp [carry_nil]⟩
  | w :: l, s => by
    rw [carry_cons]
    cases behind f s w with
    | none => exact ⟨Nat.zero_le _, by simp⟩
    | some t =>
      have ih := carry_len f l t
      refine ⟨Nat.succ_le_succ ih.1, ?_⟩
      dsimp only
      rw [ih.2, List.length_cons, List.length_cons]
      omega
theorem behind_lt {f : Field} {s w t : Nat} (hs : s < states f) (h : behind f s w = some t) : t < states f := by
  unfold behind at h
  split at h
  · cases h
    exact hs
  · split at h
    · cases h
    · exact (mem_ways hs (goTo_mem h)).2.1
end NM
namespace NM
open VbenCore Vbenaf
theorem find_snoc {α : Type} {p : α → Bool} {l : List α} {x : α} (h : l.find? p = none) : (l ++ [x]).find? p = if p x = true then some x else none := by
  rw [List.find?_append, h, Option.none_or, List.find?_cons]
  cases p x <;> rfl
theorem find_of_take {α : Type} {p : α → Bool} {l : List α} {i : Nat} {x : α} (h : l.take i = l.take i) (hn : (l.take i).find? p = none) (hx : l[i]? = some x) (hp : p x = true) : l.find? p = some x := by
  have e : l = l.take i ++ (x :: l.drop (i + 1)) := by
    conv => lhs; rw [← List.take_append_drop i l]
    congr 1
    exact List.drop_eq_getElem_cons (List.getElem?_eq_some_iff.mp hx).1 |>.trans (by rw [(List.getElem?_eq_some_iff.mp hx).2])
  rw [e, List.find?_append, hn, Option.none_or, List.find?_cons, hp]
theorem asked_lt {f : Field} {s w : Nat} (h : w ∈ asked f s) : w < f.values.length := by
  unfold asked askedOf at h
  rw [List.mem_filter, List.mem_range] at h
  exact h.1
theorem asked_len (f : Field) (s : Nat) : (asked f s).length ≤ f.values.length := by
  unfold asked askedOf
  refine Nat.le_trans (List.length_filter_le _ _) ?_
  rw [List.length_range]
  exact Nat.le_refl _
theorem worstAsk_lt {f : Field} {s w : Nat} (h : worstAsk f s = some w) : w < f.values.length := asked_lt (List.mem_of_find?_eq_some h)
/-- the test of the worst value, with numbers -/
theorem worst_test {f : Field} (h : FBk f) {s w : Nat} (hs : s < states f) : (after f (rank f) s w == rank f s) = decide (rI (after f (rank f) s w) = rI (rank f s)) := by
  rw [Bool.eq_iff_iff, beq_iff_eq, decide_eq_true_eq, rI_inj (after_small h hs) (h.small' hs)]
theorem fold_snoc {α β : Type} (g : β → α → β) (b : β) (l : List α) (x : α) : (l ++ [x]).foldl g b = g (l.foldl g b) x := by
  rw [List.foldl_append]
  rfl
end NM
namespace NM
open VbenCore Vbenaf
/-! ### the states above each state -/
def nI (l : List Nat) : List Int := l.map fun (n : Nat) => (n : Int)
def abAll (f : Field) : List (List Int) := (List.range (states f)).map fun s => nI (more f s)
theorem abAll_get {f : Field} {s : Nat} (hs : s < states f) : (abAll f)[s]? = some (nI (more f s)) := by
  unfold abAll
  rw [List.getElem?_map, List.getElem?_range hs]
  rfl
end NM
namespace NM
open VbenCore Vbenaf
/-! ### all ranks, all best ways, as lists -/
def rkAll (f : Field) : List Int := (ranks f).map rI
def bsAll (f : Field) : List (List Int) := (List.range (states f)).map (bestRow f)
theorem rkAll_get {f : Field} {s : Nat} (hs : s < states f) : (rkAll f)[s]? = some (rI (rank f s)) := by
  unfold rkAll rank
  rw [List.getElem?_map, List.getD_eq_getElem?_getD, List.getElem?_eq_getElem (by rw [ranks_len]; exact hs)]
  rfl
theorem bsAll_get {f : Field} {s : Nat} (hs : s < states f) : (bsAll f)[s]? = some (bestRow f s) := by
  unfold bsAll
  rw [List.getElem?_map, List.getElem?_range hs]
  rfl
theorem rkAll_len (f : Field) : (rkAll f).length = states f := by
  unfold rkAll
  rw [List.length_map, ranks_len]
/-! ### how many holes are notched -/
def pc (s : Nat) : Nat := if h : s = 0 then 0 else s % 2 + pc (s / 2)
termination_by s
decreasing_by omega
theorem pc_zero : pc 0 = 0 := by unfold pc; rfl
theorem pc_pos {s : Nat} (h : 0 < s) : pc s = s % 2 + pc (s / 2) := by
  conv => lhs; unfold pc
  rw [dif_neg (by omega)]
theorem pc_le : ∀ (k s : Nat), s < 2 ^ k → pc s ≤ k
  | 0, s, h => by
    have : s = 0 := by simpa using h
    subst this
    rw [pc_zero]
    exact Nat.le_refl _
  | k + 1, s, h => by
    by_cases h0 : s = 0
    · subst h0
      rw [pc_zero]
      exact Nat.zero_le _
    · rw [pc_pos (by omega)]
      have ih := pc_le k (s / 2) (by rw [Nat.pow_succ] at h; omega)
      omega
theorem count_pc : ∀ (k s : Nat), s < 2 ^ k → count k s = pc s
  | 0, s, h => by
    have : s = 0 := by simpa using h
    subst this
    rw [pc_zero]
    rfl
  | k + 1, s, h => by
    have ih := count_pc k (s / 2) (by rw [Nat.pow_succ] at h; omega)
    have e : count (k + 1) s = s % 2 + count k (s / 2) := by
      unfold count
      rw [List.range_succ_eq_map, List.filter_cons, List.filter_map]
      have e2 : (bit s ∘ Nat.succ) = bit (s / 2) := by
        funext h
        show (s / 2 ^ (h + 1) % 2 == 1) = (s / 2 / 2 ^ h % 2 == 1)
        rw [Nat.pow_succ, Nat.mul_comm, ← Nat.div_div_eq_div_mul]
      rw [e2]
      have b0 : bit s 0 = (s % 2 == 1) := by
        unfold bit
        rw [Nat.pow_zero, Nat.div_one]
      rw [b0]
      by_cases hb : s % 2 = 1
      · rw [if_pos (by simp [hb]), List.length_cons, List.length_map, hb]
        omega
      · rw [if_neg (by simp [hb]), List.length_map]
        omega
    rw [e, ih]
    by_cases h0 : s = 0
    · subst h0
      rw [pc_zero]
    · rw [← pc_pos (by omega)]
theorem count_le {k s t : Nat} (h : within k s t = true) : count k s ≤ count k t := by
  unfold count
  unfold within at h
  rw [List.all_eq_true] at h
  have key : ∀ l : List Nat, (∀ x ∈ l, (!bit s x || bit t x) = true) → (l.filter (bit s)).length ≤ (l.filter (bit t)).length := by
    intro l
    induction l with
    | nil => intro _; exact Nat.le_refl _
    | cons a l ih =>
      intro hl
      have ih' := ih fun x hx => hl x (List.mem_cons_of_mem _ hx)
      have ha := hl a (List.mem_cons_self ..)
      rw [List.filter_cons, List.filter_cons]
      cases e : bit s a with
      | false =>
        rw [if_neg (by decide)]
        split
        · rw [List.length_cons]; omega
        · exact ih'
      | true =>
        rw [e] at ha
        have hb : bit t a = true := by simpa using ha
        rw [if_pos rfl, if_pos hb, List.length_cons, List.length_cons]
        omega
  exact key _ h
/-- rows carried out, from the part that is done -/
theorem worst_ge {f : Field} {s w t : Nat} (hs : s < states f) (h : goTo f s w = some t) : s < t ∧ t < states f := by
  have m := mem_ways hs (goTo_mem h)
  exact ⟨m.1, m.2.1⟩
end NM
namespace NM
open VbenCore Vbenaf
/-! ### the ranks and best ways of the k greatest states, the others as at first -/
def rkP (f : Field) (k : Nat) : List Int := (List.range (states f)).map fun s => if states f ≤ s + k then rI (rank f s) else 1000
def bsP (f : Field) (k : Nat) : List (List Int) := (List.range (states f)).map fun s => if states f ≤ s + k then bestRow f s else []
theorem rkP_get {f : Field} {k s : Nat} (hs : s < states f) : (rkP f k)[s]? = some (if states f ≤ s + k then rI (rank f s) else 1000) := by
  unfold rkP
  rw [List.getElem?_map, List.getElem?_range hs]
  rfl
theorem bsP_get {f : Field} {k s : Nat} (hs : s < states f) : (bsP f k)[s]? = some (if states f ≤ s + k then bestRow f s else []) := by
  unfold bsP
  rw [List.getElem?_map, List.getElem?_range hs]
  rfl
theorem rkP_len (f : Field) (k : Nat) : (rkP f k).length = states f := by
  unfold rkP
  rw [List.length_map, List.length_range]
theorem bsP_len (f : Field) (k : Nat) : (bsP f k).length = states f := by
  unfold bsP
  rw [List.length_map, List.length_range]
theorem rkP_zero (f : Field) : rkP f 0 = List.replicate (states f) 1000 := by
  apply List.ext_getElem?
  intro i
  by_cases hi : i < states f
  · rw [rkP_get hi, if_neg (by omega), List.getElem?_replicate, if_pos hi]
  · rw [List.getElem?_eq_none (by rw [rkP_len]; omega), List.getElem?_eq_none (by rw [List.length_replicate]; omega)]
theorem bsP_zero (f : Field) : bsP f 0 = List.replicate (states f) [] := by
  apply List.ext_getElem?
  intro i
  by_cases hi : i < states f
  · rw [bsP_get hi, if_neg (by omega), List.getElem?_replicate, if_pos hi]
  · rw [List.getElem?_eq_none (by rw [bsP_len]; omega), List.getElem?_eq_none (by rw [List.length_replicate]; omega)]
theorem rkP_all (f : Field) : rkP f (states f) = rkAll f := by
  apply List.ext_getElem?
  intro i
  by_cases hi : i < states f
  · rw [rkP_get hi, if_pos (by omega), rkAll_get hi]
  · rw [List.getElem?_eq_none (by rw [rkP_len]; omega), List.getElem?_eq_none (by rw [rkAll_len]; omega)]
theorem bsP_all (f : Field) : bsP f (states f) = bsAll f := by
  unfold bsP bsAll
  exact List.map_congr_left fun s _ => if_pos (by omega)
theorem rkP_set {f : Field} {k s : Nat} (h : s + k + 1 = states f) : rkP f (k + 1) = (rkP f k).set s (rI (rank f s)) := by
  apply List.ext_getElem?
  intro i
  by_cases hi : i < states f
  · rw [rkP_get hi]
    by_cases e : i = s
    · subst e
      rw [if_pos (by omega), List.getElem?_set_self (by rw [rkP_len]; exact hi)]
    · rw [List.getElem?_set_ne (fun z => e z.symm), rkP_get hi]
      congr 1
      by_cases c : states f ≤ i + k
      · rw [if_pos (by omega), if_pos c]
      · rw [if_neg (by omega), if_neg c]
  · rw [List.getElem?_eq_none (by rw [rkP_len]; omega), List.getElem?_eq_none (by rw [List.length_set, rkP_len]; omega)]
theorem bsP_set {f : Field} {k s : Nat} (h : s + k + 1 = states f) : bsP f (k + 1) = (bsP f k).set s (bestRow f s) := by
  apply List.ext_getElem?
  intro i
  by_cases hi : i < states f
  · rw [bsP_get hi]
    by_cases e : i = s
    · subst e
      rw [if_pos (by omega), List.getElem?_set_self (by rw [bsP_len]; exact hi)]
    · rw [List.getElem?_set_ne (fun z => e z.symm), bsP_get hi]
      congr 1
      by_cases c : states f ≤ i + k
      · rw [if_pos (by omega), if_pos c]
      · rw [if_neg (by omega), if_neg c]
  · rw [List.getElem?_eq_none (by rw [bsP_len]; omega), List.getElem?_eq_none (by rw [List.length_set, bsP_len]; omega)]
end NM
/-! The words of a text, as the program cuts them: lines first, then blanks. -/
namespace NM
open VbenCore Vbenaf
/-- a list cut at each c -/
def spl1 (c : Nat) : List Nat → List (List Nat)
  | [] => [[]]
  | x :: r => if x = c then [] :: spl1 c r else match spl1 c r with
    | [] => [[x]]
    | w :: l => (x :: w) :: l
theorem spl1_cons (c : Nat) : ∀ l : List Nat, ∃ w r, spl1 c l = w :: r
  | [] => ⟨[], [], rfl⟩
  | x :: l => by
    obtain ⟨w, r, e⟩ := spl1_cons c l
    unfold spl1
    rw [e]
    by_cases h : x = c
    · rw [if_pos h]; exact ⟨_, _, rfl⟩
    · rw [if_neg h]; exact ⟨_, _, rfl⟩
theorem spl1_hit {c : Nat} {l : List Nat} : spl1 c (c :: l) = [] :: spl1 c l := by
  conv => lhs; unfold spl1
  rw [if_pos rfl]
theorem spl1_miss {c x : Nat} {l w : List Nat} {r : List (List Nat)} (h : x ≠ c) (e : spl1 c l = w :: r) : spl1 c (x :: l) = (x :: w) :: r := by
  conv => lhs; unfold spl1
  rw [if_neg h, e]
theorem spl1_none {c : Nat} : ∀ {l w : List Nat}, w ∈ spl1 c l → c ∉ w
  | [], w, h => by
    rw [show spl1 c [] = [[]] from rfl, List.mem_singleton] at h
    subst h
    exact List.not_mem_nil
  | x :: l, w, h => by
    obtain ⟨v, r, e⟩ := spl1_cons c l
    by_cases hx : x = c
    · subst hx
      rw [spl1_hit] at h
      rcases List.mem_cons.mp h with h | h
      · subst h; exact List.not_mem_nil
      · exact spl1_none h
    · rw [spl1_miss hx e] at h
      rcases List.mem_cons.mp h with h | h
      · subst h
        intro hm
        rcases List.mem_cons.mp hm with hm | hm
        · exact hx hm.symm
        · exact spl1_none (l := l) (by rw [e]; exact List.mem_cons_self ..) hm
      · exact spl1_none (l := l) (by rw [e]; exact List.mem_cons_of_mem _ h)
theorem spl1_len (c : Nat) : ∀ l : List Nat, (spl1 c l).length ≤ l.length + 1
  | [] => Nat.le_refl _
  | x :: l => by
    obtain ⟨w, r, e⟩ := spl1_cons c l
    have ih := spl1_len c l
    by_cases h : x = c
    · subst h
      rw [spl1_hit, List.length_cons, List.length_cons]
      omega
    · rw [spl1_miss h e]
      rw [e] at ih
      simp only [List.length_cons] at ih ⊢
      omega
/-- the words of a line, from a place on -/
def wl : Nat → List (List Nat) → List Word
  | _, [] => []
  | p, w :: l => (p, w) :: wl (p + (w.length + 1)) l
/-- the place behind them and their blanks -/
def wlEnd : Nat → List (List Nat) → Nat
  | p, [] => p
  | p, w :: l => wlEnd (p + (w.length + 1)) l
theorem wlEnd_line : ∀ (l : List Nat) (p : Nat), wlEnd p (spl1 32 l) = p + (l.length + 1)
  | [], p => rfl
  | x :: l, p => by
    obtain ⟨w, r, e⟩ := spl1_cons 32 l
    by_cases h : x = 32
    · subst h
      rw [spl1_hit]
      show wlEnd (p + (0 + 1)) (spl1 32 l) = _
      rw [wlEnd_line l, List.length_cons]
      omega
    · rw [spl1_miss h e]
      have ih := wlEnd_line l (p + 1)
      rw [e] at ih
      show wlEnd (p + ((x :: w).length + 1)) r = _
      have ih : wlEnd (p + 1 + (w.length + 1)) r = p + 1 + (l.length + 1) := ih
      rw [List.length_cons, List.length_cons, show p + (w.length + 1 + 1) = p + 1 + (w.length + 1) by omega, ih]
      omega
/-- the lines behind the first -/
def llr : Nat → List (List Nat) → List Word
  | _, [] => []
  | p, l :: ls => (p - 1, [10]) :: (wl p (spl1 32 l) ++ llr (p + (l.length + 1)) ls)
def lls (p : Nat) : List (List Nat) → List Word
  | [] => []
  | l :: ls => wl p (spl1 32 l) ++ llr (p + (l.length + 1)) ls
theorem cut_lines : ∀ (t : List Nat) (p : Nat), cut p t = lls p (spl1 10 t)
  | [], p => rfl
  | c :: r, p => by
    obtain ⟨h, tl, e⟩ := spl1_cons 10 r
    have ih := cut_lines r (p + 1)
    rw [e] at ih
    unfold cut
    by_cases hc : c = 32
    · subst hc
      rw [if_pos rfl, ih, spl1_miss (by decide) e]
      show _ = wl p (spl1 32 (32 :: h)) ++ llr (p + ((32 :: h).length + 1)) tl
      rw [spl1_hit, List.length_cons, show p + (h.length + 1 + 1) = p + 1 + (h.length + 1) by omega]
      rfl
    · rw [if_neg hc]
      by_cases h10 : c = 10
      · subst h10
        rw [if_pos rfl, ih, spl1_hit, e]
        rfl
      · rw [if_neg h10, ih, spl1_miss h10 e]
        obtain ⟨w, l, ew⟩ := spl1_cons 32 h
        show (match wl (p + 1) (spl1 32 h) ++ llr (p + 1 + (h.length + 1)) tl with
          | [] => [(p, [c])]
          | (_, w) :: l => (p, c :: w) :: l) = wl p (spl1 32 (c :: h)) ++ llr (p + ((c :: h).length + 1)) tl
        rw [ew, spl1_miss hc ew, List.length_cons, show p + (h.length + 1 + 1) = p + 1 + (h.length + 1) by omega]
        show (p, c :: w) :: (wl (p + 1 + (w.length + 1)) l ++ llr (p + 1 + (h.length + 1)) tl) = (p, c :: w) :: (wl (p + (w.length + 1 + 1)) l ++ llr (p + 1 + (h.length + 1)) tl)
        rw [show p + (w.length + 1 + 1) = p + 1 + (w.length + 1) by omega]
theorem cut_len : ∀ (t : List Nat) (p : Nat), (cut p t).length ≤ 2 * t.length + 1
  | [], p => Nat.le_refl _
  | c :: r, p => by
    have ih := cut_len r (p + 1)
    unfold cut
    split
    · simp only [List.length_cons]; omega
    · split
      · simp only [List.length_cons]; omega
      · cases e : cut (p + 1) r with
        | nil => simp only [List.length_cons, List.length_nil]; omega
        | cons a l =>
          rw [e] at ih
          obtain ⟨q, w⟩ := a
          simp only [List.length_cons] at ih ⊢
          omega
theorem cut_ne (t : List Nat) (p : Nat) : cut p t ≠ [] := by
  cases t with
  | nil => intro h; cases h
  | cons c r =>
    unfold cut
    split
    · intro h; cases h
    · split
      · intro h; cases h
      · cases cut (p + 1) r with
        | nil => intro h; cases h
        | cons a l => obtain ⟨q, w⟩ := a; intro h; cases h
/-- each word's bytes are the text's -/
theorem cut_small {P : Nat → Prop} (h10 : P 10) : ∀ (t : List Nat) (p : Nat), (∀ c ∈ t, P c) → ∀ w ∈ cut p t, ∀ c ∈ w.2, P c
  | [], p, _, w, hw, c, hc => by
    rw [show cut p [] = [(p, [])] from rfl, List.mem_singleton] at hw
    subst hw
    cases hc
  | x :: r, p, h, w, hw, c, hc => by
    have ih := cut_small h10 r (p + 1) fun c hc => h c (List.mem_cons_of_mem _ hc)
    unfold cut at hw
    split at hw
    · rcases List.mem_cons.mp hw with hw | hw
      · subst hw; cases hc
      · exact ih w hw c hc
    · split at hw
      · rcases List.mem_cons.mp hw with hw | hw
        · subst hw; cases hc
        · rcases List.mem_cons.mp hw with hw | hw
          · subst hw
            rw [List.mem_singleton] at hc
            subst hc
            exact h10
          · exact ih w hw c hc
      · cases e : cut (p + 1) r with
        | nil =>
          rw [e] at hw
          rw [List.mem_singleton] at hw
          subst hw
          rw [List.mem_singleton] at hc
          subst hc
          exact h _ (List.mem_cons_self ..)
        | cons a l =>
          obtain ⟨q, v⟩ := a
          rw [e] at hw ih
          rcases List.mem_cons.mp hw with hw | hw
          · subst hw
            rcases List.mem_cons.mp hc with hc | hc
            · subst hc
              exact h _ (List.mem_cons_self ..)
            · exact ih _ (List.mem_cons_self ..) c hc
          · exact ih w (List.mem_cons_of_mem _ hw) c hc
theorem cut_wlen : ∀ (t : List Nat) (p : Nat), ∀ w ∈ cut p t, w.2.length ≤ t.length + 1
  | [], p, w, hw => by
    rw [show cut p [] = [(p, [])] from rfl, List.mem_singleton] at hw
    subst hw
    exact Nat.zero_le _
  | x :: r, p, w, hw => by
    have ih := cut_wlen r (p + 1)
    unfold cut at hw
    split at hw
    · rcases List.mem_cons.mp hw with hw | hw
      · subst hw; exact Nat.zero_le _
      · have := ih w hw; simp only [List.length_cons]; omega
    · split at hw
      · rcases List.mem_cons.mp hw with hw | hw
        · subst hw; exact Nat.zero_le _
        · rcases List.mem_cons.mp hw with hw | hw
          · subst hw; simp
          · have := ih w hw; simp only [List.length_cons]; omega
      · cases e : cut (p + 1) r with
        | nil =>
          rw [e] at hw
          rw [List.mem_singleton] at hw
          subst hw
          simp
        | cons a l =>
          obtain ⟨q, v⟩ := a
          rw [e] at hw ih
          rcases List.mem_cons.mp hw with hw | hw
          · subst hw
            have := ih _ (List.mem_cons_self ..)
            simp only [List.length_cons] at this ⊢
            omega
          · have := ih w (List.mem_cons_of_mem _ hw)
            simp only [List.length_cons]
            omega
end NM
namespace NM
open VbenCore Vbenaf
theorem wl_snoc : ∀ (l : List (List Nat)) (p : Nat) (w : List Nat), wl p (l ++ [w]) = wl p l ++ [(wlEnd p l, w)]
  | [], p, w => rfl
  | v :: l, p, w => by
    show (p, v) :: wl (p + (v.length + 1)) (l ++ [w]) = (p, v) :: (wl (p + (v.length + 1)) l ++ [(wlEnd (p + (v.length + 1)) l, w)])
    rw [wl_snoc l]
theorem wlEnd_snoc : ∀ (l : List (List Nat)) (p : Nat) (w : List Nat), wlEnd p (l ++ [w]) = wlEnd p l + (w.length + 1)
  | [], p, w => rfl
  | v :: l, p, w => wlEnd_snoc l (p + (v.length + 1)) w
theorem spl1_wlen (c : Nat) : ∀ (l : List Nat), ∀ w ∈ spl1 c l, w.length ≤ l.length
  | [], w, h => by
    rw [show spl1 c [] = [[]] from rfl, List.mem_singleton] at h
    subst h
    exact Nat.le_refl _
  | x :: l, w, h => by
    obtain ⟨v, r, e⟩ := spl1_cons c l
    have ih := spl1_wlen c l
    by_cases hx : x = c
    · subst hx
      rw [spl1_hit] at h
      rcases List.mem_cons.mp h with h | h
      · subst h; exact Nat.zero_le _
      · have := ih w h; simp only [List.length_cons]; omega
    · rw [spl1_miss hx e] at h
      rw [e] at ih
      rcases List.mem_cons.mp h with h | h
      · subst h
        have := ih v (List.mem_cons_self ..)
        simp only [List.length_cons]; omega
      · have := ih w (List.mem_cons_of_mem _ h)
        simp only [List.length_cons]; omega
end NM
namespace NM
/-- what a call brings: numbers and rows -/
inductive Thing where
  | num (i : Int)
  | row (x : List Int)
/-- the things of these kinds, ahead of the rest -/
def want (isL : List Nat → Bool) : List (List Nat) → List Int → Option (List Thing × List Int)
  | [], r => some ([], r)
  | k :: ks, r => if isL k = true then (match PyFlat.row r with
      | none => none
      | some (x, s) => (want isL ks s).map fun y => (.row x :: y.1, y.2))
    else match r with
      | [] => none
      | v :: s => (want isL ks s).map fun y => (.num v :: y.1, y.2)
/-- a call with its things: of what kind each is -/
def thingsOf (g : Int → List (List Nat)) : List (List Int) → Int × List (List Nat × Thing)
  | (p :: nums) :: rows => (p, (g p).zip (nums.map .num ++ rows.map .row))
  | _ => (0, [])
/-- how many numbers and rows, told by kinds -/
def Fits (shape : Int → Option (Nat × Nat)) (g : Int → List (List Nat)) (isL : List Nat → Bool) : Prop :=
  ∀ p n k, shape p = some (n, k) → ∃ a b, g p = a ++ b ∧ a.length = n ∧ b.length = k ∧ (∀ x ∈ a, isL x = false) ∧ ∀ x ∈ b, isL x = true
theorem want_rows (isL : List Nat → Bool) : ∀ (b : List (List Nat)) (r : List Int) (xs : List (List Int)) (t : List Int), (∀ x ∈ b, isL x = true) → PyFlat.rows b.length r = some (xs, t) → want isL b r = some (xs.map .row, t) ∧ xs.length = b.length
  | [], r, xs, t, _, h => by cases h; exact ⟨rfl, rfl⟩
  | k :: ks, r, xs, t, hb, h => by
    have h : (match PyFlat.row r with
      | none => none
      | some (x, s) => match PyFlat.rows ks.length s with
        | none => none
        | some (xs, t) => some (x :: xs, t)) = some (xs, t) := h
    cases hr : PyFlat.row r with
    | none => rw [hr] at h; cases h
    | some y =>
      obtain ⟨x, s⟩ := y
      rw [hr] at h
      have h : (match PyFlat.rows ks.length s with
        | none => none
        | some (xs, t) => some (x :: xs, t)) = some (xs, t) := h
      cases hq : PyFlat.rows ks.length s with
      | none => rw [hq] at h; cases h
      | some z =>
        obtain ⟨ys, t'⟩ := z
        rw [hq] at h
        cases h
        have ih := want_rows isL ks s ys t (fun x hx => hb x (List.mem_cons_of_mem _ hx)) hq
        refine ⟨?_, congrArg Nat.succ ih.2⟩
        show (if isL k = true then _ else _) = _
        rw [if_pos (hb k (List.mem_cons_self ..)), hr]
        show (want isL ks s).map _ = _
        rw [ih.1]
        rfl
theorem want_nums (isL : List Nat → Bool) : ∀ (a b : List (List Nat)) (r : List Int) (ts : List Thing) (t : List Int), (∀ x ∈ a, isL x = false) → a.length ≤ r.length → want isL b (r.drop a.length) = some (ts, t) → want isL (a ++ b) r = some ((r.take a.length).map .num ++ ts, t)
  | [], b, r, ts, t, _, _, h => h
  | k :: ks, b, [], ts, t, _, hl, h => absurd hl (by simp)
  | k :: ks, b, v :: s, ts, t, ha, hl, h => by
    have ih := want_nums isL ks b s ts t (fun x hx => ha x (List.mem_cons_of_mem _ hx)) (Nat.le_of_succ_le_succ hl) h
    show (if isL k = true then _ else _) = _
    rw [if_neg (by rw [ha k (List.mem_cons_self ..)]; decide)]
    show (want isL (ks ++ b) s).map _ = _
    rw [ih]
    rfl
theorem call_want {shape : Int → Option (Nat × Nat)} {g : Int → List (List Nat)} {isL : List Nat → Bool} (hf : Fits shape g isL) {p : Int} {r : List Int} {c : List (List Int)} {t : List Int} (h : PyFlat.call shape (p :: r) = some (c, t)) :
    ∃ n k ts, shape p = some (n, k) ∧ want isL (g p) r = some (ts, t) ∧ thingsOf g c = (p, (g p).zip ts) ∧ ts.length = (g p).length := by
  have h : (match shape p with
    | none => none
    | some (n, k) => if r.length < n then none else match PyFlat.rows k (r.drop n) with
      | none => none
      | some (xs, t) => some ((p :: r.take n) :: xs, t)) = some (c, t) := h
  cases hs : shape p with
  | none => rw [hs] at h; cases h
  | some nk =>
    obtain ⟨n, k⟩ := nk
    rw [hs] at h
    have h : (if r.length < n then none else match PyFlat.rows k (r.drop n) with
      | none => none
      | some (xs, t) => some ((p :: r.take n) :: xs, t)) = some (c, t) := h
    by_cases hl : r.length < n
    · rw [if_pos hl] at h; cases h
    · rw [if_neg hl] at h
      cases hr : PyFlat.rows k (r.drop n) with
      | none => rw [hr] at h; cases h
      | some y =>
        obtain ⟨xs, t'⟩ := y
        rw [hr] at h
        cases h
        obtain ⟨a, b, e, la, lb, ha, hb⟩ := hf p n k hs
        subst la lb
        have w := want_rows isL b _ xs t hb hr
        have z := want_nums isL a b r _ t ha (by omega) w.1
        refine ⟨_, _, (r.take a.length).map .num ++ xs.map .row, rfl, by rw [e]; exact z, rfl, ?_⟩
        rw [e, List.length_append, List.length_append, List.length_map, List.length_map, List.length_take, w.2]
        omega
theorem row_drop {r : List Int} {x s : List Int} (h : PyFlat.row r = some (x, s)) : ∃ n : Nat, r = (n : Int) :: r.drop 1 ∧ n ≤ (r.drop 1).length ∧ x = (r.drop 1).take n ∧ s = r.drop (1 + n) := by
  cases r with
  | nil => cases h
  | cons v r =>
    have h : (if 0 ≤ v ∧ v.toNat ≤ r.length then some (r.take v.toNat, r.drop v.toNat) else none) = some (x, s) := h
    by_cases hc : 0 ≤ v ∧ v.toNat ≤ r.length
    · rw [if_pos hc] at h
      cases h
      refine ⟨v.toNat, ?_, hc.2, rfl, ?_⟩
      · show v :: r = ((v.toNat : Nat) : Int) :: r
        rw [Int.toNat_of_nonneg hc.1]
      · rw [Nat.add_comm, List.drop_succ_cons]
    · rw [if_neg hc] at h; cases h
/-- the rest behind the things is behind so many places -/
theorem want_drop (isL : List Nat → Bool) : ∀ (ks : List (List Nat)) (r : List Int) (ts : List Thing) (t : List Int), want isL ks r = some (ts, t) → ∃ j, t = r.drop j ∧ j ≤ r.length
  | [], r, ts, t, h => by cases h; exact ⟨0, rfl, Nat.zero_le _⟩
  | k :: ks, r, ts, t, h => by
    unfold want at h
    by_cases hk : isL k = true
    · rw [if_pos hk] at h
      cases hr : PyFlat.row r with
      | none => rw [hr] at h; cases h
      | some y =>
        obtain ⟨x, s⟩ := y
        rw [hr] at h
        have h : (want isL ks s).map (fun y => (Thing.row x :: y.1, y.2)) = some (ts, t) := h
        cases hw : want isL ks s with
        | none => rw [hw] at h; cases h
        | some z =>
          obtain ⟨us, t'⟩ := z
          rw [hw] at h
          cases h
          obtain ⟨j, e, hj⟩ := want_drop isL ks s us _ hw
          obtain ⟨n, e1, e2, e3, e4⟩ := row_drop hr
          refine ⟨1 + n + j, by rw [e, e4, List.drop_drop], ?_⟩
          have l1 : r.length = (r.drop 1).length + 1 := by
            conv => lhs; rw [e1]
            rfl
          rw [e4, List.length_drop] at hj
          omega
    · rw [if_neg hk] at h
      cases r with
      | nil => cases h
      | cons v s =>
        have h : (want isL ks s).map (fun y => (Thing.num v :: y.1, y.2)) = some (ts, t) := h
        cases hw : want isL ks s with
        | none => rw [hw] at h; cases h
        | some z =>
          obtain ⟨us, t'⟩ := z
          rw [hw] at h
          cases h
          obtain ⟨j, e, hj⟩ := want_drop isL ks s us _ hw
          exact ⟨j + 1, by rw [e, List.drop_succ_cons], Nat.succ_le_succ hj⟩
end NM
namespace NM
open VbenCore Vbenaf
/-! ### the states ahead of a best way -/
def before (f : Field) (k : Nat) : List Nat := (List.range (states f)).filter fun t => t != k && (within f.holes t k && (valueOf f k).any fun v => goTo f t v == some k)
theorem before_none {f : Field} {k : Nat} (h : valueOf f k = none) : before f k = [] := by
  unfold before
  rw [List.filter_eq_nil_iff]
  intro t _ z
  rw [h] at z
  simp at z
theorem goTo_way {f : Field} {s w t : Nat} (hs : s < states f) (h : goTo f s w = some t) : s < t ∧ t < states f ∧ valueOf f t = some w ∧ within f.holes s t = true := by
  have m := goTo_mem h
  have q := mem_ways hs m
  unfold ways at m
  rw [List.mem_filter, Bool.and_eq_true, Bool.and_eq_true] at m
  exact ⟨q.1, q.2.1, q.2.2, m.2.2.1⟩
theorem before_some {f : Field} {k v : Nat} (hk : k < states f) (h : valueOf f k = some v) : before f k = (List.range k).filter fun t => decide (goTo f t v = some k) := by
  have e : List.range (states f) = List.range k ++ (List.range (states f - k)).map fun i => k + i := by
    conv => lhs; rw [show states f = k + (states f - k) by omega]
    exact List.range_add
  unfold before
  rw [e, List.filter_append]
  have e2 : ((List.range (states f - k)).map fun i => k + i).filter (fun t => t != k && (within f.holes t k && (valueOf f k).any fun v => goTo f t v == some k)) = [] := by
    rw [List.filter_eq_nil_iff]
    intro t ht z
    rw [List.mem_map] at ht
    obtain ⟨i, hi, rfl⟩ := ht
    rw [List.mem_range] at hi
    rw [h, Bool.and_eq_true, Bool.and_eq_true] at z
    have g : goTo f (k + i) v = some k := by simpa using z.2.2
    have q := goTo_way (by omega) g
    omega
  rw [e2, List.append_nil]
  refine List.filter_congr fun t ht => ?_
  rw [List.mem_range] at ht
  rw [h, Bool.eq_iff_iff, Bool.and_eq_true, Bool.and_eq_true, decide_eq_true_eq, bne_iff_ne]
  constructor
  · intro z
    simpa using z.2.2
  · intro g
    have q := goTo_way (by omega) g
    exact ⟨by omega, q.2.2.2, by simp [g]⟩
theorem before_len (f : Field) (k : Nat) : (before f k).length ≤ states f := by
  unfold before
  exact Nat.le_trans (List.length_filter_le _ _) (by rw [List.length_range]; exact Nat.le_refl _)
end NM
namespace NM
open VbenCore Vbenaf
/-! ### labels -/
def ubad (f : Field) (d : List Int) (s w : Nat) : Bool := !((ways f s w).any fun t => decide (d.getD s 0 ≤ 1 + d.getD t 0))
def borne (f : Field) (d : List Int) (s : Nat) : Bool := !(decide (0 < d.getD s 0) && (asked f s).any (ubad f d s))
def ugood (f : Field) (u : List Int) (s w : Nat) : Bool := (ways f s w).all fun t => decide (0 ≤ u.getD t 0 ∧ 1 + u.getD t 0 ≤ u.getD s 0)
def unpassed (f : Field) (u : List Int) (s : Nat) : Bool := !(decide (0 ≤ u.getD s 0) && !((asked f s).any (ugood f u s)))
def badL (f : Field) (d : List Int) : List Nat := (List.range (states f)).filter fun s => !borne f d s
def badU (f : Field) (u : List Int) : List Nat := (List.range (states f)).filter fun s => !unpassed f u s
theorem badLower_eq (f : Field) (d : List Int) : badLower f d = (badL f d).head? := by
  unfold badLower badL
  rw [List.head?_filter]
  congr 1
  funext s
  unfold borne
  rw [Bool.not_not]
  rfl
theorem badUpper_eq (f : Field) (u : List Int) : badUpper f u = (badU f u).head? := by
  unfold badUpper badU
  rw [List.head?_filter]
  congr 1
  funext s
  unfold unpassed
  rw [Bool.not_not]
  rfl
theorem badL_len (f : Field) (d : List Int) : (badL f d).length ≤ states f := by
  unfold badL
  exact Nat.le_trans (List.length_filter_le _ _) (by rw [List.length_range]; exact Nat.le_refl _)
theorem badU_len (f : Field) (d : List Int) : (badU f d).length ≤ states f := by
  unfold badU
  exact Nat.le_trans (List.length_filter_le _ _) (by rw [List.length_range]; exact Nat.le_refl _)
theorem ways_lt {f : Field} {s w t : Nat} (hs : s < states f) (h : t ∈ ways f s w) : t < states f := (mem_ways hs h).2.1
theorem ways_len (f : Field) (s w : Nat) : (ways f s w).length ≤ states f := by
  unfold ways
  exact Nat.le_trans (List.length_filter_le _ _) (by rw [List.length_range]; exact Nat.le_refl _)
end NM
namespace NM
open VbenCore Vbenaf
/-! ### rows that are known beforehand -/
def stepB (f : Field) (l : List Nat) (w : Nat) : List Nat := (List.range (states f)).filter fun t => l.any fun s => (valueOf f s == some w && t == s) || ((asked f s).contains w && (ways f s w).contains t)
theorem mayBe_nil (f : Field) (l : List Nat) : mayBe f l [] = l := rfl
theorem mayBe_cons (f : Field) (l : List Nat) (w : Nat) (r : List Nat) : mayBe f l (w :: r) = mayBe f (stepB f l w) r := rfl
/-- as the program gathers them -/
def beh1 (f : Field) (w s : Nat) : List Nat := if valueOf f s = some w then [s] else if (asked f s).contains w = true then ways f s w else []
def gath (f : Field) (w : Nat) (l : List Nat) : List Nat := l.flatMap (beh1 f w)
theorem asked_own {f : Field} {s w : Nat} (h : valueOf f s = some w) : (asked f s).contains w = false := by
  cases hc : (asked f s).contains w with
  | false => rfl
  | true =>
    have m := List.contains_iff_mem.mp hc
    unfold asked askedOf at m
    rw [List.mem_filter, h, Bool.and_eq_true, bne_iff_ne] at m
    exact absurd rfl m.2.1
theorem mem_beh1 {f : Field} {w s t : Nat} : t ∈ beh1 f w s ↔ (valueOf f s = some w ∧ t = s) ∨ ((asked f s).contains w = true ∧ t ∈ ways f s w) := by
  unfold beh1
  by_cases h : valueOf f s = some w
  · rw [if_pos h, List.mem_singleton]
    constructor
    · exact fun z => .inl ⟨h, z⟩
    · rintro (z | z)
      · exact z.2
      · rw [asked_own h] at z
        cases z.1
  · rw [if_neg h]
    by_cases h2 : (asked f s).contains w = true
    · rw [if_pos h2]
      constructor
      · exact fun z => .inr ⟨h2, z⟩
      · rintro (z | z)
        · exact absurd z.1 h
        · exact z.2
    · rw [if_neg h2]
      constructor
      · intro z; cases z
      · rintro (z | z)
        · exact absurd z.1 h
        · exact absurd z.1 h2
theorem mem_stepB {f : Field} {l : List Nat} {w t : Nat} (hl : ∀ s ∈ l, s < states f) : t ∈ stepB f l w ↔ t ∈ gath f w l := by
  unfold stepB gath
  rw [List.mem_filter, List.mem_range, List.any_eq_true, List.mem_flatMap]
  constructor
  · rintro ⟨_, s, hs, h⟩
    refine ⟨s, hs, mem_beh1.mpr ?_⟩
    rw [Bool.or_eq_true, Bool.and_eq_true, Bool.and_eq_true, beq_iff_eq, beq_iff_eq, List.contains_iff_mem (as := ways f s w)] at h
    exact h
  · rintro ⟨s, hs, h⟩
    have h := mem_beh1.mp h
    refine ⟨?_, s, hs, ?_⟩
    · rcases h with h | h
      · rw [h.2]; exact hl s hs
      · exact (mem_ways (hl s hs) h.2).2.1
    · rw [Bool.or_eq_true, Bool.and_eq_true, Bool.and_eq_true, beq_iff_eq, beq_iff_eq, List.contains_iff_mem (as := ways f s w)]
      exact h
/-- sets of states that may come up: rising, fewer than 64 -/
structure SOk (f : Field) (l : List Nat) : Prop where
  up : l.Pairwise (· < ·)
  lt : ∀ s ∈ l, s < states f
  z : l = [0] ∨ 0 ∉ l
theorem SOk.one {f : Field} {s : Nat} (h : s < states f) : SOk f [s] := by
  refine ⟨List.pairwise_singleton _ _, fun x hx => by rw [List.mem_singleton] at hx; rw [hx]; exact h, ?_⟩
  by_cases e : s = 0
  · exact .inl (by rw [e])
  · exact .inr fun z => e (List.mem_singleton.mp z).symm
theorem range_up : ∀ n : Nat, (List.range n).Pairwise (· < ·) := fun n => List.pairwise_lt_range
theorem stepB_ok {f : Field} {l : List Nat} (h : SOk f l) (w : Nat) : SOk f (stepB f l w) := by
  have up : (stepB f l w).Pairwise (· < ·) := by
    unfold stepB
    exact List.Pairwise.filter _ (range_up _)
  have lt : ∀ s ∈ stepB f l w, s < states f := fun s hs => by
    unfold stepB at hs
    rw [List.mem_filter, List.mem_range] at hs
    exact hs.1
  refine ⟨up, lt, ?_⟩
  have notin : ∀ s ∈ l, 0 ∉ ways f s w := fun s hs z => by
    have := (mem_ways (h.lt s hs) z).1
    omega
  rcases h.z with h0 | h0
  · subst h0
    by_cases hv : valueOf f 0 = some w
    · left
      have m : ∀ t, t ∈ stepB f [0] w ↔ t = 0 := fun t => by
        rw [mem_stepB h.lt]
        unfold gath
        rw [List.flatMap_cons, List.flatMap_nil, List.append_nil, mem_beh1]
        constructor
        · rintro (z | z)
          · exact z.2
          · rw [asked_own hv] at z; cases z.1
        · exact fun z => .inl ⟨hv, z⟩
      cases hb : stepB f [0] w with
      | nil =>
        have := (m 0).mpr rfl
        rw [hb] at this
        cases this
      | cons a r =>
        rw [hb] at m up
        have ha := (m a).mp (List.mem_cons_self ..)
        subst ha
        cases r with
        | nil => rfl
        | cons b r =>
          have hb2 := (m b).mp (List.mem_cons_of_mem _ (List.mem_cons_self ..))
          rw [List.pairwise_cons] at up
          have := up.1 b (List.mem_cons_self ..)
          omega
    · right
      rw [mem_stepB h.lt]
      unfold gath
      rw [List.flatMap_cons, List.flatMap_nil, List.append_nil, mem_beh1]
      rintro (z | z)
      · exact hv z.1
      · exact notin 0 (List.mem_singleton.mpr rfl) z.2
  · right
    rw [mem_stepB h.lt]
    unfold gath
    rw [List.mem_flatMap]
    rintro ⟨s, hs, z⟩
    rcases mem_beh1.mp z with z | z
    · exact h0 (by rw [z.2]; exact hs)
    · exact notin s hs z.2
theorem up_len : ∀ {l : List Nat} {a n : Nat}, l.Pairwise (· < ·) → (∀ x ∈ l, a ≤ x ∧ x < n) → l.length + a ≤ n ∨ l = []
  | [], _, _, _, _ => .inr rfl
  | b :: l, a, n, h, hm => by
    rw [List.pairwise_cons] at h
    have hb := hm b (List.mem_cons_self ..)
    rcases up_len (a := b + 1) (n := n) h.2 (fun x hx => ⟨h.1 x hx, (hm x (List.mem_cons_of_mem _ hx)).2⟩) with z | z
    · left
      rw [List.length_cons]
      omega
    · subst z
      left
      show 0 + 1 + a ≤ n
      omega
theorem SOk.few {f : Field} {l : List Nat} (h : SOk f l) (n64 : states f ≤ 64) : l.length ≤ 63 := by
  rcases h.z with h0 | h0
  · subst h0
    decide
  · rcases up_len (a := 1) (n := states f) h.up (fun x hx => ⟨by
      by_cases e : x = 0
      · subst e; exact absurd hx h0
      · omega, h.lt x hx⟩) with z | z
    · omega
    · subst z; decide
theorem gath_len {f : Field} (n64 : states f ≤ 64) (n1 : 1 ≤ states f) (w : Nat) : ∀ l : List Nat, (gath f w l).length ≤ l.length * 64
  | [] => Nat.zero_le _
  | s :: l => by
    have ih := gath_len n64 n1 w l
    unfold gath at ih ⊢
    rw [List.flatMap_cons, List.length_append, List.length_cons]
    have : (beh1 f w s).length ≤ 64 := by
      unfold beh1
      split
      · exact Nat.le_of_ble_eq_true rfl
      · split
        · exact Nat.le_trans (ways_len f s w) n64
        · exact Nat.zero_le _
    omega
/-- two rising lists with the same members -/
theorem up_eq : ∀ {a b : List Nat}, a.Pairwise (· < ·) → b.Pairwise (· < ·) → (∀ x, x ∈ a ↔ x ∈ b) → a = b
  | [], [], _, _, _ => rfl
  | [], y :: b, _, _, h => by have := (h y).mpr (List.mem_cons_self ..); cases this
  | x :: a, [], _, _, h => by have := (h x).mp (List.mem_cons_self ..); cases this
  | x :: a, y :: b, ha, hb, h => by
    rw [List.pairwise_cons] at ha hb
    have e : x = y := by
      rcases List.mem_cons.mp ((h x).mp (List.mem_cons_self ..)) with z | z
      · exact z
      · rcases List.mem_cons.mp ((h y).mpr (List.mem_cons_self ..)) with q | q
        · exact q.symm
        · have := hb.1 x z
          have := ha.1 y q
          omega
    subst e
    have t : a = b := up_eq ha.2 hb.2 fun z => by
      constructor
      · intro hz
        rcases List.mem_cons.mp ((h z).mp (List.mem_cons_of_mem _ hz)) with q | q
        · have := ha.1 z hz; omega
        · exact q
      · intro hz
        rcases List.mem_cons.mp ((h z).mpr (List.mem_cons_of_mem _ hz)) with q | q
        · have := hb.1 z hz; omega
        · exact q
    rw [t]
/-- all beginnings' sets -/
def mbs (f : Field) : List Nat → List Nat → List (List Nat)
  | l, [] => [l]
  | l, w :: r => l :: mbs f (stepB f l w) r
theorem mbs_len (f : Field) : ∀ (r l : List Nat), (mbs f l r).length = r.length + 1
  | [], _ => rfl
  | w :: r, l => by
    show (mbs f (stepB f l w) r).length + 1 = _
    rw [mbs_len f r]
    rfl
theorem mbs_get (f : Field) : ∀ (r l : List Nat) (k : Nat), k ≤ r.length → (mbs f l r)[k]? = some (mayBe f l (r.take k))
  | [], l, k, h => by
    have : k = 0 := Nat.le_zero.mp h
    subst this
    rfl
  | w :: r, l, 0, _ => rfl
  | w :: r, l, k + 1, h => by
    show (mbs f (stepB f l w) r)[k]? = _
    rw [mbs_get f r _ k (Nat.le_of_succ_le_succ h), List.take_succ_cons, mayBe_cons]
theorem mbs_last (f : Field) (r l : List Nat) : (mbs f l r).getLast? = some (mayBe f l r) := by
  rw [List.getLast?_eq_getElem?, mbs_len, Nat.add_sub_cancel, mbs_get f r l _ (Nat.le_refl _), List.take_length]
theorem mbs_snoc (f : Field) : ∀ (r l : List Nat) (w : Nat), mbs f l (r ++ [w]) = mbs f l r ++ [stepB f (mayBe f l r) w]
  | [], l, w => rfl
  | x :: r, l, w => by
    show l :: mbs f (stepB f l x) (r ++ [w]) = _
    rw [mbs_snoc f r]
    rfl
theorem mayBe_ok {f : Field} : ∀ (r l : List Nat), SOk f l → SOk f (mayBe f l r)
  | [], l, h => h
  | w :: r, l, h => by
    rw [mayBe_cons]
    exact mayBe_ok r _ (stepB_ok h w)
theorem mbs_ok {f : Field} : ∀ (r l : List Nat), SOk f l → ∀ x ∈ mbs f l r, SOk f x
  | [], l, h => fun x hx => by
    rw [show mbs f l [] = [l] from rfl, List.mem_singleton] at hx
    rw [hx]; exact h
  | w :: r, l, h => fun x hx => by
    rcases List.mem_cons.mp (show x ∈ l :: mbs f (stepB f l w) r from hx) with z | z
    · rw [z]; exact h
    · exact mbs_ok r _ (stepB_ok h w) x z
theorem stepB_nil (f : Field) (w : Nat) : stepB f [] w = [] := by
  unfold stepB
  rw [List.filter_eq_nil_iff]
  intro t _ z
  cases z
theorem mayBe_empty (f : Field) : ∀ r : List Nat, mayBe f [] r = []
  | [] => rfl
  | w :: r => by rw [mayBe_cons, stepB_nil, mayBe_empty f r]
/-- how many of the beginnings are borne -/
def nonE (l : List Nat) : Bool := decide (0 < l.length)
theorem mbs_nil_all (f : Field) : ∀ r : List Nat, (mbs f [] r).filter nonE = []
  | [] => rfl
  | w :: r => by
    show ([] :: mbs f (stepB f [] w) r).filter nonE = []
    rw [stepB_nil, List.filter_cons, if_neg (by decide)]
    exact mbs_nil_all f r
theorem max_range : ∀ m : Nat, (List.range (m + 1)).foldl max 0 = m
  | 0 => rfl
  | m + 1 => by
    rw [List.range_succ, List.foldl_append, max_range m]
    show max m (m + 1) = m + 1
    omega
theorem far_pre (f : Field) (l : List Nat) (r : List Nat) (hl : l ≠ []) : ∃ m, m ≤ r.length ∧ ((List.range (r.length + 1)).filter fun k => !(mayBe f l (r.take k)).isEmpty) = List.range (m + 1) ∧ ((mbs f l r).filter nonE).length = m + 1 := by
  induction r generalizing l with
  | nil =>
    refine ⟨0, Nat.le_refl _, ?_, ?_⟩
    · have e : (!(mayBe f l ([].take 0)).isEmpty) = true := by
        show (!l.isEmpty) = true
        cases l with
        | nil => exact absurd rfl hl
        | cons a b => rfl
      show (List.range 1).filter _ = List.range 1
      rw [show List.range 1 = [0] from rfl, List.filter_cons, if_pos e]
      rfl
    · cases l with
      | nil => exact absurd rfl hl
      | cons a b =>
        show ([a :: b].filter nonE).length = 1
        rw [List.filter_cons, if_pos (by unfold nonE; simp)]
        rfl
  | cons w r ih =>
    have e0 : (!(mayBe f l ((w :: r).take 0)).isEmpty) = true := by
      show (!l.isEmpty) = true
      cases l with
      | nil => exact absurd rfl hl
      | cons a b => rfl
    have e1 : nonE l = true := by
      unfold nonE
      cases l with
      | nil => exact absurd rfl hl
      | cons a b => simp
    have er : (List.range ((w :: r).length + 1)).filter (fun k => !(mayBe f l ((w :: r).take k)).isEmpty) = 0 :: ((List.range (r.length + 1)).filter fun k => !(mayBe f (stepB f l w) (r.take k)).isEmpty).map (· + 1) := by
      rw [List.length_cons, List.range_succ_eq_map, List.filter_cons, if_pos e0, List.filter_map]
      rfl
    by_cases hs : stepB f l w = []
    · refine ⟨0, Nat.zero_le _, ?_, ?_⟩
      · rw [er, hs]
        have : (List.range (r.length + 1)).filter (fun k => !(mayBe f [] (r.take k)).isEmpty) = [] := by
          rw [List.filter_eq_nil_iff]
          intro k _ z
          rw [mayBe_empty] at z
          cases z
        rw [this]
        rfl
      · show ((l :: mbs f (stepB f l w) r).filter nonE).length = 1
        rw [List.filter_cons, if_pos e1, hs, mbs_nil_all]
        rfl
    · obtain ⟨m, h1, h2, h3⟩ := ih (stepB f l w) hs
      refine ⟨m + 1, Nat.succ_le_succ h1, ?_, ?_⟩
      · rw [er, h2, ← List.range_succ_eq_map]
      · show ((l :: mbs f (stepB f l w) r).filter nonE).length = m + 1 + 1
        rw [List.filter_cons, if_pos e1, List.length_cons, h3]
theorem far_eq (f : Field) (s : Nat) (r : List Nat) : (((mbs f [s] r).filter nonE).length : Int) - 1 = (farthest f s r : Int) := by
  obtain ⟨m, _, h2, h3⟩ := far_pre f [s] r (by intro z; cases z)
  unfold farthest
  rw [h2, h3, max_range]
  omega
/-! ### the first row that nobody carries -/
def stuck1 (f : Field) (k : Nat) (l : List Nat) (w : Nat) : Option (List Nat) := let m := mayBe f l [w]
    if m.isEmpty = true then some [w] else (stuckFrom f k m (some w)).map fun r => w :: r
theorem stuck_succ (f : Field) (k : Nat) (l : List Nat) (v : Option Nat) : stuckFrom f (k + 1) l v = (askedOf f v).findSome? (stuck1 f k l) := rfl
theorem stuck_ne (f : Field) : ∀ (k : Nat) (l : List Nat) (v : Option Nat) (r : List Nat), stuckFrom f k l v = some r → r ≠ [] ∧ r.length ≤ k
  | 0, _, _, r, h => by cases h
  | k + 1, l, v, r, h => by
    rw [stuck_succ] at h
    obtain ⟨w, _, hw⟩ := List.exists_of_findSome?_eq_some h
    unfold stuck1 at hw
    dsimp only at hw
    split at hw
    · cases hw
      exact ⟨List.cons_ne_nil _ _, Nat.succ_le_succ (Nat.zero_le _)⟩
    · cases hq : stuckFrom f k (mayBe f l [w]) (some w) with
      | none => rw [hq] at hw; cases hw
      | some q =>
        rw [hq] at hw
        have hw : w :: q = r := Option.some.inj hw
        subst hw
        exact ⟨List.cons_ne_nil _ _, Nat.succ_le_succ (stuck_ne f k _ _ q hq).2⟩
theorem find_snocS {α β : Type} {p : α → Option β} {l : List α} {x : α} (h : l.findSome? p = none) : (l ++ [x]).findSome? p = p x := by
  rw [List.findSome?_append, h, Option.none_or, List.findSome?_cons]
  cases p x <;> rfl
theorem find_of_takeS {α β : Type} {p : α → Option β} {l : List α} {i : Nat} {x : α} {y : β} (hn : (l.take i).findSome? p = none) (hx : l[i]? = some x) (hp : p x = some y) : l.findSome? p = some y := by
  have e : l = l.take i ++ (x :: l.drop (i + 1)) := by
    conv => lhs; rw [← List.take_append_drop i l]
    congr 1
    exact List.drop_eq_getElem_cons (List.getElem?_eq_some_iff.mp hx).1 |>.trans (by rw [(List.getElem?_eq_some_iff.mp hx).2])
  rw [e, List.findSome?_append, hn, Option.none_or, List.findSome?_cons, hp]
theorem askedOf_lt {f : Field} {v : Option Nat} {w : Nat} (h : w ∈ askedOf f v) : w < f.values.length := by
  unfold askedOf at h
  rw [List.mem_filter, List.mem_range] at h
  exact h.1
theorem askedOf_len (f : Field) (v : Option Nat) : (askedOf f v).length ≤ f.values.length := by
  unfold askedOf
  refine Nat.le_trans (List.length_filter_le _ _) ?_
  rw [List.length_range]
  exact Nat.le_refl _
end NM
namespace NM
open VbenCore Vbenaf
/-! ### ranks hang on what lies above -/
theorem rank_same {f g : Field} (hh : f.holes = g.holes) (hv : f.values.length = g.values.length) (hl : f.lets = g.lets) : ∀ (k s : Nat), s < states f → states f ≤ s + k → (∀ t, s ≤ t → t < states f → valueOf f t = valueOf g t) → rank f s = rank g s
  | 0, s, hs, hk, _ => by omega
  | k + 1, s, hs, hk, ht => by
    have hn : states f = states g := by unfold states; rw [hh]
    have hw : ∀ w, ways f s w = ways g s w := fun w => by
      unfold ways
      rw [← hn, ← hh]
      refine List.filter_congr fun t hm => ?_
      rw [List.mem_range] at hm
      by_cases hq : within f.holes s t = true
      · have z := and_le ((within_and hs).mp hq)
        rw [ht t z hm]
      · have : within f.holes s t = false := by simpa using hq
        rw [this, Bool.false_and, Bool.false_and]
    have ha : asked f s = asked g s := by
      unfold asked askedOf
      rw [ht s (Nat.le_refl _) hs, hv, hl]
    have hr : ∀ w, after f (rank f) s w = after g (rank g) s w := fun w => by
      unfold after bestWay
      rw [hw w]
      congr 1
      refine foldl_congr_mem fun b t hm => ?_
      rw [← hw w] at hm
      have z := mem_ways hs hm
      rw [rank_same hh hv hl k t z.2.1 (by omega) fun u h1 h2 => ht u (by omega) h2]
    rw [rank_eq hs, rank_eq (f := g) (by omega)]
    unfold rankFrom
    rw [ha]
    congr 1
    exact List.map_congr_left fun w _ => hr w
theorem rank_alike {f g : Field} (hh : f.holes = g.holes) (hv : f.values.length = g.values.length) (hl : f.lets = g.lets) {s : Nat} (hs : s < states f) (ht : ∀ t, s ≤ t → t < states f → valueOf f t = valueOf g t) : rank f s = rank g s := rank_same hh hv hl (states f) s hs (by omega) ht
/-! ### ranks that have an end -/
theorem least_none : ∀ {l : List Rank} {a : Rank}, l.foldl (fun a b => if lessRank b a = true then b else a) a = none → a = none ∧ ∀ x ∈ l, x = none
  | [], a, h => ⟨h, fun x hx => by cases hx⟩
  | b :: l, a, h => by
    rw [List.foldl_cons] at h
    obtain ⟨h1, h2⟩ := least_none h
    cases b with
    | some n =>
      cases a with
      | none => cases h1
      | some m =>
        split at h1
        · cases h1
        · cases h1
    | none =>
      have e : lessRank none a = false := by
        unfold lessRank
        cases a <;> rfl
      rw [e, if_neg (by decide)] at h1
      refine ⟨h1, fun x hx => ?_⟩
      rcases List.mem_cons.mp hx with z | z
      · exact z
      · exact h2 x z
theorem least_zero : ∀ {l : List Rank}, (∀ x ∈ l, x = some 0) → l.foldl (fun a b => if lessRank b a = true then b else a) (some 0) = some 0
  | [], _ => rfl
  | b :: l, h => by
    rw [List.foldl_cons, h b (List.mem_cons_self ..)]
    exact least_zero fun x hx => h x (List.mem_cons_of_mem _ hx)
theorem asked_some_ne {f : Field} (hl : f.lets = []) (hv : 2 ≤ f.values.length) (s : Nat) : asked f s ≠ [] := by
  intro h
  unfold asked askedOf at h
  rw [List.filter_eq_nil_iff] at h
  cases e : valueOf f s with
  | none =>
    have := h 0 (List.mem_range.mpr (by omega))
    rw [e] at this
    exact this rfl
  | some x =>
    rw [e, hl] at h
    by_cases hx : x = 0
    · have := h 1 (List.mem_range.mpr (by omega))
      subst hx
      exact this (by decide)
    · have := h 0 (List.mem_range.mpr (by omega))
      refine this ?_
      rw [Bool.and_eq_true, bne_iff_ne]
      exact ⟨fun z => hx (Option.some.inj z), rfl⟩
theorem rank_fin {f : Field} (hl : f.lets = []) (hv : 2 ≤ f.values.length) : ∀ (k s : Nat), s < states f → states f ≤ s + k → rank f s ≠ none
  | 0, s, hs, hk => by omega
  | k + 1, s, hs, hk => fun h => by
    rw [rank_eq hs] at h
    unfold rankFrom leastRank at h
    have z := (least_none h).2
    cases ha : asked f s with
    | nil => exact asked_some_ne hl hv s ha
    | cons w r =>
      have q := z (after f (rank f) s w) (List.mem_map.mpr ⟨w, by rw [ha]; exact List.mem_cons_self .., rfl⟩)
      rw [after_goTo] at q
      cases hg : goTo f s w with
      | none => rw [hg] at q; cases q
      | some t =>
        rw [hg] at q
        have m := mem_ways hs (goTo_mem hg)
        have ih := rank_fin hl hv k t m.2.1 (by omega)
        cases hr : rank f t with
        | none => exact ih hr
        | some n =>
          dsimp only at q
          rw [hr] at q
          cases q
theorem rank_some {f : Field} (hl : f.lets = []) (hv : 2 ≤ f.values.length) {s : Nat} (hs : s < states f) : ∃ n, rank f s = some n := by
  cases h : rank f s with
  | none => exact absurd h (rank_fin hl hv (states f) s hs (by omega))
  | some n => exact ⟨n, rfl⟩
/-! ### tables by their numbers -/
def gF (h v : Nat) (t : List (Option Nat)) : Field := { holes := h, values := (List.range v).map fun i => [48 + i], lets := [], table := t }
theorem gF_len (h v : Nat) (t : List (Option Nat)) : (gF h v t).values.length = v := by
  unfold gF
  rw [List.length_map, List.length_range]
theorem rank_gF {h v : Nat} {t : List (Option Nat)} {s : Nat} (hs : s < 2 ^ h) : rank (gF h v t) s = rank (fieldOf h v t) s :=
  rank_alike (f := gF h v t) (g := fieldOf h v t) rfl ((gF_len h v t).trans (show ((List.range v).map fun i => [97 + i]).length = v by rw [List.length_map, List.length_range]).symm) rfl hs fun t _ _ => rfl
def dig (b c i : Nat) : Nat := c / b ^ i % b
def dgo (d : Nat) : Option Nat := if d = 0 then none else some (d - 1)
theorem dgo_vI (d : Nat) : vI (dgo d) = (d : Int) - 1 := by
  unfold dgo
  by_cases h : d = 0
  · rw [if_pos h, h]
    rfl
  · rw [if_neg h]
    show ((d - 1 : Nat) : Int) = _
    omega
/-- the c-th table whose first i digits are put away -/
def tabR (h v c i : Nat) : List (Option Nat) := none :: (List.range (2 ^ h - 1)).map fun j => if j < i then none else dgo (dig (v + 1) c j)
def tab (h v c : Nat) : List (Option Nat) := none :: tableNo v (2 ^ h - 1) c
theorem tab_eq (h v c : Nat) : tab h v c = none :: (List.range (2 ^ h - 1)).map fun j => dgo (dig (v + 1) c j) := rfl
theorem tabR_zero (h v c : Nat) : tabR h v c 0 = tab h v c := by
  rw [tab_eq]
  unfold tabR
  congr 1
theorem two_pow_pos (h : Nat) : 1 ≤ 2 ^ h := Nat.one_le_two_pow
theorem tab_len (h v c : Nat) : (tab h v c).length = 2 ^ h := by
  rw [tab_eq, List.length_cons, List.length_map, List.length_range]
  have := two_pow_pos h
  omega
theorem tabR_len (h v c i : Nat) : (tabR h v c i).length = 2 ^ h := by
  unfold tabR
  rw [List.length_cons, List.length_map, List.length_range]
  have := two_pow_pos h
  omega
theorem tab_get {h v c s : Nat} (hs : s < 2 ^ h - 1) : (tab h v c)[s + 1]? = some (dgo (dig (v + 1) c s)) := by
  rw [tab_eq, List.getElem?_cons_succ, List.getElem?_map, List.getElem?_range hs]
  rfl
theorem tabR_get {h v c i s : Nat} (hs : s < 2 ^ h - 1) : (tabR h v c i)[s + 1]? = some (if s < i then none else dgo (dig (v + 1) c s)) := by
  unfold tabR
  rw [List.getElem?_cons_succ, List.getElem?_map, List.getElem?_range hs]
  rfl
theorem val_of {f : Field} {s : Nat} {o : Option Nat} (h : f.table[s]? = some o) : valueOf f s = o := by
  unfold Vbenaf.valueOf
  rw [List.getD_eq_getElem?_getD, h]
  rfl
theorem dig_lt {b c i : Nat} (hb : 0 < b) : dig b c i < b := Nat.mod_lt _ hb
theorem tabR_mem {h v c i w : Nat} (hm : some w ∈ tabR h v c i) : w < v := by
  unfold tabR at hm
  rcases List.mem_cons.mp hm with z | z
  · cases z
  · obtain ⟨j, _, hj⟩ := List.mem_map.mp z
    split at hj
    · cases hj
    · have := dig_lt (b := v + 1) (c := c) (i := j) (by omega)
      unfold dgo at hj
      split at hj
      · cases hj
      · have := Option.some.inj hj
        omega
theorem tabR_ok {h v c i : Nat} (h1 : 1 ≤ h) (h3 : h ≤ 3) (v8 : v ≤ 8) : FBk (gF h v (tabR h v c i)) :=
  ⟨h1, by show h ≤ 6; omega, tabR_len h v c i, by rw [gF_len]; exact v8, fun w hw => (by rw [gF_len]; exact tabR_mem hw), fun p hp => (by cases hp), Nat.zero_le _⟩
theorem tab_ok {h v c : Nat} (h1 : 1 ≤ h) (h3 : h ≤ 3) (v8 : v ≤ 8) : FBk (gF h v (tab h v c)) := by
  rw [← tabR_zero]
  exact tabR_ok h1 h3 v8
/-- one digit more is put away -/
theorem tabR_succ {h v c i : Nat} (hi : i < 2 ^ h - 1) : tabR h v c (i + 1) = (tabR h v c i).set (i + 1) none := by
  apply List.ext_getElem?
  intro k
  cases k with
  | zero => rw [List.getElem?_set_ne (by omega)]; rfl
  | succ k =>
    by_cases hk : k < 2 ^ h - 1
    · rw [tabR_get hk]
      by_cases e : k = i
      · subst e
        rw [List.getElem?_set_self (by rw [tabR_len]; omega), if_pos (by omega)]
      · rw [List.getElem?_set_ne (by omega), tabR_get hk]
        congr 1
        by_cases c2 : k < i
        · rw [if_pos (by omega), if_pos c2]
        · rw [if_neg (by omega), if_neg c2]
    · rw [List.getElem?_eq_none (by rw [tabR_len]; omega), List.getElem?_eq_none (by rw [List.length_set, tabR_len]; omega)]
/-! ### counting on -/
theorem inc_low {b c i j : Nat} (hb : 0 < b) (h : (c + 1) % b ^ i = 0) (hj : j < i) : dig b (c + 1) j = 0 := by
  obtain ⟨q, hq⟩ := Nat.dvd_trans (Nat.pow_dvd_pow b (Nat.succ_le_of_lt hj)) (Nat.dvd_of_mod_eq_zero h)
  unfold dig
  rw [hq, Nat.pow_succ, Nat.mul_assoc, Nat.mul_div_cancel_left _ (Nat.pow_pos hb)]
  exact Nat.mul_mod_right b q
theorem inc_q {b c i : Nat} (hb : 0 < b) (h : (c + 1) % b ^ i = 0) : ∃ q, (c + 1) / b ^ i = q + 1 ∧ c / b ^ i = q := by
  obtain ⟨q, hq⟩ := Nat.dvd_of_mod_eq_zero h
  have hp : 0 < b ^ i := Nat.pow_pos hb
  cases q with
  | zero => rw [Nat.mul_zero] at hq; omega
  | succ q =>
    refine ⟨q, by rw [hq, Nat.mul_div_cancel_left _ hp], ?_⟩
    have e : c = b ^ i * q + (b ^ i - 1) := by
      rw [Nat.mul_succ] at hq
      omega
    rw [e, Nat.mul_add_div hp, Nat.div_eq_of_lt (by omega), Nat.add_zero]
theorem succ_mod {q b : Nat} (hb : 0 < b) (h : q % b < b - 1) : (q + 1) % b = q % b + 1 ∧ (q + 1) / b = q / b := by
  have e := Nat.div_add_mod q b
  generalize hx : q / b = x at e
  generalize hy : q % b = y at e h
  have e2 : q + 1 = b * x + (y + 1) := by omega
  constructor
  · rw [e2, Nat.mul_add_mod, Nat.mod_eq_of_lt (by omega)]
  · rw [e2, Nat.mul_add_div hb, Nat.div_eq_of_lt (by omega), Nat.add_zero]
theorem inc_at {b c i : Nat} (hb : 0 < b) (h : (c + 1) % b ^ i = 0) (hd : dig b c i < b - 1) : dig b (c + 1) i = dig b c i + 1 := by
  obtain ⟨q, h1, h2⟩ := inc_q hb h
  unfold dig at hd ⊢
  rw [h2] at hd
  rw [h1, h2]
  exact (succ_mod hb hd).1
theorem inc_high {b c i j : Nat} (hb : 0 < b) (h : (c + 1) % b ^ i = 0) (hd : dig b c i < b - 1) (hj : i < j) : dig b (c + 1) j = dig b c j := by
  obtain ⟨q, h1, h2⟩ := inc_q hb h
  unfold dig at hd ⊢
  rw [h2] at hd
  have ej : b ^ j = b ^ i * (b * b ^ (j - i - 1)) := by
    rw [← Nat.pow_succ', ← Nat.pow_add]
    congr 1
    omega
  rw [ej, ← Nat.div_div_eq_div_mul, ← Nat.div_div_eq_div_mul, ← Nat.div_div_eq_div_mul c, ← Nat.div_div_eq_div_mul, h1, h2, (succ_mod hb hd).2]
theorem inc_next {b c i : Nat} (hb : 0 < b) (h : (c + 1) % b ^ i = 0) (hd : ¬ dig b c i < b - 1) : (c + 1) % b ^ (i + 1) = 0 := by
  obtain ⟨q, h1, h2⟩ := inc_q hb h
  have hl := dig_lt (c := c) (i := i) hb
  unfold dig at hd hl
  rw [h2] at hd hl
  have e := Nat.div_add_mod q b
  have e2 : q + 1 = b * (q / b + 1) := by rw [Nat.mul_add]; omega
  have e3 := Nat.div_add_mod (c + 1) (b ^ i)
  rw [h, h1, Nat.add_zero, e2, ← Nat.mul_assoc] at e3
  rw [← e3, Nat.pow_succ]
  exact Nat.mul_mod_right _ _
/-- the next table -/
theorem tab_next {h v c i : Nat} (hc : (c + 1) % (v + 1) ^ i = 0) (hi : i < 2 ^ h - 1) (hd : dig (v + 1) c i < v) : tab h v (c + 1) = (tabR h v c i).set (i + 1) (some (dig (v + 1) c i)) := by
  have hb : 0 < v + 1 := by omega
  have hd' : dig (v + 1) c i < v + 1 - 1 := by omega
  apply List.ext_getElem?
  intro k
  cases k with
  | zero => rw [List.getElem?_set_ne (by omega)]; rfl
  | succ k =>
    by_cases hk : k < 2 ^ h - 1
    · rw [tab_get hk]
      by_cases e : k = i
      · subst e
        rw [List.getElem?_set_self (by rw [tabR_len]; omega), inc_at hb hc hd']
        unfold dgo
        rw [if_neg (by omega)]
        rfl
      · rw [List.getElem?_set_ne (by omega), tabR_get hk]
        congr 1
        by_cases c2 : k < i
        · rw [if_pos c2, inc_low hb hc c2]
          rfl
        · rw [if_neg c2, inc_high hb hc hd' (by omega)]
    · rw [List.getElem?_eq_none (by rw [tab_len]; omega), List.getElem?_eq_none (by rw [List.length_set, tabR_len]; omega)]
theorem tab_last {h v c : Nat} (hc : (c + 1) % (v + 1) ^ (2 ^ h - 1) = 0) (hl : c < (v + 1) ^ (2 ^ h - 1)) : c + 1 = (v + 1) ^ (2 ^ h - 1) := by
  obtain ⟨q, hq⟩ := Nat.dvd_of_mod_eq_zero hc
  cases q with
  | zero => rw [Nat.mul_zero] at hq; omega
  | succ q =>
    rw [Nat.mul_succ] at hq
    have := Nat.zero_le ((v + 1) ^ (2 ^ h - 1) * q)
    omega
theorem tab_not_last {h v c i : Nat} (hc : (c + 1) % (v + 1) ^ i = 0) (hi : i < 2 ^ h - 1) (hd : dig (v + 1) c i < v) (hl : c < (v + 1) ^ (2 ^ h - 1)) : c + 1 < (v + 1) ^ (2 ^ h - 1) := by
  refine Nat.lt_of_le_of_ne hl fun e => ?_
  have z : dig (v + 1) (c + 1) i = dig (v + 1) c i + 1 := inc_at (b := v + 1) (i := i) (by omega) hc (by omega)
  have y : dig (v + 1) (c + 1) i = 0 := inc_low (b := v + 1) (i := 2 ^ h - 1) (by omega) (by rw [e]; exact Nat.mod_self _) hi
  omega
/-! ### the best of them -/
def bstp (h v : Nat) (b : Nat × List (Option Nat)) (c : Nat) : Nat × List (Option Nat) :=
  match rank (fieldOf h v (tab h v c)) 0 with
    | some r => if b.1 < r then (r, tab h v c) else b
    | none => b
def bt (h v k : Nat) : Nat × List (Option Nat) := (List.range k).foldl (bstp h v) (0, List.replicate (2 ^ h) none)
theorem bt_all (h v : Nat) : bestTable h v = bt h v ((v + 1) ^ (2 ^ h - 1)) := rfl
theorem bt_succ (h v k : Nat) : bt h v (k + 1) = bstp h v (bt h v k) k := by
  unfold bt
  rw [List.range_succ, List.foldl_append]
  rfl
theorem tab_zero (h v : Nat) : tab h v 0 = List.replicate (2 ^ h) none := by
  rw [tab_eq]
  have e : (List.range (2 ^ h - 1)).map (fun j => dgo (dig (v + 1) 0 j)) = List.replicate (2 ^ h - 1) none := by
    rw [List.map_congr_left (g := fun _ => none) fun j _ => by unfold dig; rw [Nat.zero_div, Nat.zero_mod]; rfl]
    rw [List.map_const', List.length_range]
  rw [e, ← List.replicate_succ]
  congr 1
  have := two_pow_pos h
  omega
theorem rank_bare {h v : Nat} (hv : 1 ≤ v) : rank (gF h v (List.replicate (2 ^ h) none)) 0 = some 0 := by
  have hs : 0 < states (gF h v (List.replicate (2 ^ h) none)) := two_pow_pos h
  have hval : ∀ s, valueOf (gF h v (List.replicate (2 ^ h) none)) s = none := fun s => by
    unfold Vbenaf.valueOf gF
    rw [List.getD_eq_getElem?_getD]
    dsimp only
    rw [List.getElem?_replicate]
    split <;> rfl
  rw [rank_eq hs]
  unfold rankFrom leastRank
  have hw : ∀ w, after (gF h v (List.replicate (2 ^ h) none)) (rank (gF h v (List.replicate (2 ^ h) none))) 0 w = some 0 := fun w => by
    rw [after_goTo]
    cases hg : goTo (gF h v (List.replicate (2 ^ h) none)) 0 w with
    | none => rfl
    | some t =>
      have m := mem_ways hs (goTo_mem hg)
      rw [hval] at m
      cases m.2.2
  have ha : asked (gF h v (List.replicate (2 ^ h) none)) 0 ≠ [] := by
    intro z
    unfold asked askedOf at z
    rw [List.filter_eq_nil_iff, hval] at z
    exact z 0 (List.mem_range.mpr (by rw [gF_len]; omega)) rfl
  cases hq : asked (gF h v (List.replicate (2 ^ h) none)) 0 with
  | nil => exact absurd hq ha
  | cons w r =>
    rw [List.map_cons, List.foldl_cons, hw w]
    exact least_zero fun x hx => by
      obtain ⟨y, _, rfl⟩ := List.mem_map.mp hx
      exact hw y
theorem tab_rank {h v : Nat} (hv : 2 ≤ v) (c : Nat) : ∃ r, rank (gF h v (tab h v c)) 0 = some r := rank_some rfl (by rw [gF_len]; exact hv) (two_pow_pos h)
/-- what the search knows: a table that is one of them, and its rank -/
theorem bt_inv {h v : Nat} (hv : 2 ≤ v) : ∀ k, rank (gF h v (bt h v k).2) 0 = some (bt h v k).1 ∧ ∃ c, (bt h v k).2 = tab h v c
  | 0 => ⟨rank_bare (by omega), 0, (tab_zero h v).symm⟩
  | k + 1 => by
    obtain ⟨r, hr⟩ := tab_rank (h := h) hv k
    have hr2 : rank (fieldOf h v (tab h v k)) 0 = some r := by rw [← rank_gF (two_pow_pos h)]; exact hr
    rw [bt_succ]
    unfold bstp
    rw [hr2]
    dsimp only
    split
    · exact ⟨hr, k, rfl⟩
    · exact bt_inv hv k
theorem bt_one {h v : Nat} (hv : 2 ≤ v) : bt h v 1 = (0, tab h v 0) := by
  rw [bt_succ]
  have hr : rank (fieldOf h v (tab h v 0)) 0 = some 0 := by
    rw [← rank_gF (two_pow_pos h), tab_zero]
    exact rank_bare (by omega)
  unfold bstp
  rw [hr]
  dsimp only
  have e : ¬ (bt h v 0).1 < 0 := Nat.not_lt_zero _
  rw [if_neg e, tab_zero]
  rfl
theorem bt_step {h v c r : Nat} (hr : rank (gF h v (tab h v c)) 0 = some r) : bt h v (c + 1) = if (bt h v c).1 < r then (r, tab h v c) else bt h v c := by
  rw [bt_succ]
  unfold bstp
  rw [← rank_gF (two_pow_pos h), hr]
end NM
set_option Elab.async false
set_option linter.all false
set_option maxRecDepth 100000
set_option maxHeartbeats 4000000
namespace N
open PySem PySem.Spec PyProof.Rows L2 Evl
/-! ### defs, methods and classes that may be called -/
section
variable (P : Program) (w : World) (K : PySem.W.Frag) (mg : Str → Option Value) (base : Heap)
/-- a def of the module, by its name -/
structure Cal (CX : CXT) (k : Nat) (x : Str) (sp : Sp) : Prop where
  ex : ∃ (f : Addr) (fd : FuncData) (ps : List Str), FnOk P w K mg base CX k f fd ps sp ∧ mg x = some (.ref f) ∧ PySem.W.keepIn K (.ref f) = true ∧ Binds K fd ps []
/-- a method of the class at C -/
structure Met (CX : CXT) (k : Nat) (C : Addr) (m : Str) (sp : Sp) : Prop where
  ex : ∃ (f : Addr) (fd : FuncData) (ps : List Str), Cls K C ∧ Meth K C m f ∧ FnOk P w K mg base CX k f fd ps sp ∧ Binds K fd ps []
/-- a class that may be made by its name; sp: its __init__ -/
structure Mak (CX : CXT) (k : Nat) (x : Str) (C : Addr) (sp : Sp) : Prop where
  ex : ∃ (f : Addr) (fd : FuncData) (ps : List Str), Mk K C f ∧ FnOk P w K mg base CX k f fd ps sp ∧ mg x = some (.ref C) ∧ Binds K fd ps []
end
section
variable {X : Cx} {k j : Nat} {C : Addr} {x m : Str} {sp : Sp} {p pos apos : Pos} {e o : Expr} {es : List Expr} {ta : TE} {t : TA}
theorem pc (c : Cal X.prog X.w X.K X.mg X.base CX0 k x sp) (hr : Room j X.A) (hk : k ≤ j) (hg : Gl X x) (ha : PA X (e :: es) t)
    (hdb : (x == ("__debug__" : Str)) = false := by decide) (he : starEach (e :: es) X.env = (false, eval e X.env) :: starEach es X.env := by rfl) (hpl : (backTo pos (starEach es X.env)).any (·.1) = false := by rfl) :
    PE X (.Call (.Name x p) (e :: es) [] pos) (tCall sp [] E0 t) := by
  obtain ⟨f, fd, ps, F, hm, kp, b⟩ := c.ex
  exact pe_call F (hr.mono hk) hg hm kp b .nil pass0 ha hdb he hpl
theorem pc0 (c : Cal X.prog X.w X.K X.mg X.base CX0 k x sp) (hr : Room j X.A) (hk : k ≤ j) (hg : Gl X x)
    (hdb : (x == ("__debug__" : Str)) = false := by decide) :
    PE X (.Call (.Name x p) [] [] pos) (tCall sp [] E0 tNil) := by
  obtain ⟨f, fd, ps, F, hm, kp, b⟩ := c.ex
  exact pe_call0 F (hr.mono hk) hg hm kp b .nil pass0 hdb
theorem pmt {pl : Sem Bool} (c : Met X.prog X.w X.K X.mg X.base CX0 k C m sp) (hr : Room j X.A) (hk : k ≤ j) (he : PE X o ta) (ha : PA X (e :: es) t)
    (hst : starEach (e :: es) X.env = (false, eval e X.env) :: starEach es X.env := by rfl) (hpl : (backTo pos (starEach es X.env)).any (·.1) = false := by rfl)
    (ht : eval (.Call (.Attribute o m apos) (e :: es) [] pos) X.env = (do
      let ov ← eval o X.env
      standAt apos.atName
      let (f, first) ← holding [ov] (getMethod ov m pl)
      callWith pos f first (backTo pos (starEach (e :: es) X.env)) (backToKw pos (keywordEach [] X.env))) := by rfl) :
    PE X (.Call (.Attribute o m apos) (e :: es) [] pos) (tMeth C m sp [] E0 ta t) := by
  obtain ⟨f, fd, ps, hc, hm, F, b⟩ := c.ex
  exact pe_meth (pl := pl) he hc hm F (hr.mono hk) b .nil pass0 ha hst hpl ht
theorem pmt0 {pl : Sem Bool} (c : Met X.prog X.w X.K X.mg X.base CX0 k C m sp) (hr : Room j X.A) (hk : k ≤ j) (he : PE X o ta)
    (ht : eval (.Call (.Attribute o m apos) [] [] pos) X.env = (do
      let ov ← eval o X.env
      standAt apos.atName
      let (f, first) ← holding [ov] (getMethod ov m pl)
      callWith pos f first (backTo pos (starEach [] X.env)) (backToKw pos (keywordEach [] X.env))) := by rfl) :
    PE X (.Call (.Attribute o m apos) [] [] pos) (tMeth C m sp [] E0 ta tNil) := by
  obtain ⟨f, fd, ps, hc, hm, F, b⟩ := c.ex
  exact pe_meth0 (pl := pl) he hc hm F (hr.mono hk) b .nil pass0 ht
/-- a whole number that the module's name holds; a text; an object -/
theorem pgi {i : Int} (h : ∃ t, X.mg x = some (.int i t)) (hg : Gl X x := by rfl) (hd : (x == ("__debug__" : Str)) = false := by decide) : PE X (.Name x pos) (tC (.int i)) := by
  obtain ⟨t, h⟩ := h
  exact pe_glob hg h ⟨t, rfl⟩ hd
theorem pgs {z : Str} (h : ∃ t, X.mg x = some (.str z t)) (hg : Gl X x := by rfl) (hd : (x == ("__debug__" : Str)) = false := by decide) : PE X (.Name x pos) (tC (.str z)) := by
  obtain ⟨t, h⟩ := h
  exact pe_glob hg h ⟨t, rfl⟩ hd
theorem pgr {a : Addr} (h : X.mg x = some (.ref a)) (hg : Gl X x := by rfl) (hd : (x == ("__debug__" : Str)) = false := by decide) : PE X (.Name x pos) (tC (.ref a)) := pe_glob hg h rfl hd
section
variable (K : PySem.W.Frag) {a b : Expr} {tb : TE} {f : Str}
/-- len of a list or a tuple -/
theorem plen (hm : X.mg "len" = none) (he : PE X e ta) (hg : Gl X "len" := by rfl) (hs : starEach [e] X.env = (false, eval e X.env) :: starEach [] X.env := by rfl) (hpl : (backTo pos (starEach [] X.env)).any (·.1) = false := by rfl) (hK : X.K = K := by rfl) :
    PE X (.Call (.Name "len" p) [e] [] pos) (tCB (rLenS K) (tCons ta tNil)) := by
  subst hK
  exact pe_callB call_len_seq hg hm PySem.boot_len (pa_cons he pa_nil hs) (by decide) (by decide) hs hpl
theorem pix (ha : PE X a ta) (hb : PE X b tb) (hs : PlainIx b := by exact (fun _ _ => rfl)) (hK : X.K = K := by rfl) : PE X (.Subscript a b pos) (tOp (rIxL K) ta tb) := by
  subst hK
  exact pe_ix ix_list ha hb hs
theorem pixt (ha : PE X a ta) (hb : PE X b tb) (hs : PlainIx b := by exact (fun _ _ => rfl)) (hK : X.K = K := by rfl) : PE X (.Subscript a b pos) (tOp (rIxT K) ta tb) := by
  subst hK
  exact pe_ix ix_tup ha hb hs
theorem pfld (he : PE X e ta) (hb : attributeBase e f X.env (eval e X.env) = eval e X.env := by rfl) (hK : X.K = K := by rfl) : PE X (.Attribute e f pos) (tFld K ta f) := by
  subst hK
  exact pe_fld he hb
theorem pinD (hu : X.A.units + 65 < cLine) (ha : PE X a ta) (hb : PE X b tb) (hm : behindInMarks .In b = false := by rfl) (hK : X.K = K := by rfl) : PT X (.Compare a [.In] [b] pos) (tTest (tOp (rInD K) ta tb)) := by
  subst hK
  exact pt_cmpR (op_inD hu) ha hb hm
theorem pninD (hu : X.A.units + 65 < cLine) (ha : PE X a ta) (hb : PE X b tb) (hm : behindInMarks .NotIn b = false := by rfl) (hK : X.K = K := by rfl) : PT X (.Compare a [.NotIn] [b] pos) (tTest (tOp (rNotInD K) ta tb)) := by
  subst hK
  exact pt_cmpR (op_notInD hu) ha hb hm
theorem pin (ha : PE X a ta) (hb : PE X b tb) (hm : behindInMarks .In b = false := by rfl) (hK : X.K = K := by rfl) : PT X (.Compare a [.In] [b] pos) (tTest (tOp (rIn K false) ta tb)) := by
  subst hK
  exact pt_cmpR op_in_seq ha hb hm
theorem pnin (ha : PE X a ta) (hb : PE X b tb) (hm : behindInMarks .NotIn b = false := by rfl) (hK : X.K = K := by rfl) : PT X (.Compare a [.NotIn] [b] pos) (tTest (tOp (rIn K true) ta tb)) := by
  subst hK
  exact pt_cmpR op_notIn_seq ha hb hm
theorem qinD (hu : X.A.units + 65 < cLine) (ha : PE X a ta) (hb : PE X b tb) (hm : behindInMarks .In b = false := by rfl) (hK : X.K = K := by rfl) : PE X (.Compare a [.In] [b] pos) (tOp (rInD K) ta tb) := by
  subst hK
  exact pe_cmpR (op_inD hu) ha hb hm
theorem qninD (hu : X.A.units + 65 < cLine) (ha : PE X a ta) (hb : PE X b tb) (hm : behindInMarks .NotIn b = false := by rfl) (hK : X.K = K := by rfl) : PE X (.Compare a [.NotIn] [b] pos) (tOp (rNotInD K) ta tb) := by
  subst hK
  exact pe_cmpR (op_notInD hu) ha hb hm
theorem qin (ha : PE X a ta) (hb : PE X b tb) (hm : behindInMarks .In b = false := by rfl) (hK : X.K = K := by rfl) : PE X (.Compare a [.In] [b] pos) (tOp (rIn K false) ta tb) := by
  subst hK
  exact pe_cmpR op_in_seq ha hb hm
theorem qnin (ha : PE X a ta) (hb : PE X b tb) (hm : behindInMarks .NotIn b = false := by rfl) (hK : X.K = K := by rfl) : PE X (.Compare a [.NotIn] [b] pos) (tOp (rIn K true) ta tb) := by
  subst hK
  exact pe_cmpR op_notIn_seq ha hb hm
theorem piList {tg l : Expr} {tl : TE} (hl : PE X l tl) (hK : X.K = K := by rfl) : PI X tg l (iList K tl) := by
  subst hK
  exact pi_list hl
theorem piTup {tg l : Expr} {tl : TE} (hl : PE X l tl) (hK : X.K = K := by rfl) : PI X tg l (iTup K tl) := by
  subst hK
  exact pi_tup hl
theorem pgTup {es : List Expr} {k : Nat} {t : TGs} {n : Nat} (hc : X.calm = true) (h : PGs X es t)
    (hn : (assignEach es X.env).length = n := by rfl) (hst : (assignEach es X.env).findIdx? (·.1) = none := by rfl) (hK : X.K = K := by rfl) : PG X (.Tuple es k pos) (gTup K n t) := by
  subst hK
  exact pg_tup hc h hn hst
theorem psfld {o value : Expr} {pos' : Pos} {ta tv : TE} (ha : PE X o ta) (hv : PE X value tv) (hs : swapsWith value (some (.Attribute o f pos')) pos.line X.env = pure false := by rfl) (hK : X.K = K := by rfl) : PS X (.Assign [.Attribute o f pos'] value pos) (sFld K ta tv f) := by
  subst hK
  exact ps_fld ha hv hs
theorem psfldaug {o value : Expr} {tpos : Pos} {ta tv : TE} {op : Operator} {rd : V → V → Hp → VK → Prop} (ha : PE X o ta) (hv : PE X value tv) (hop : InOp X op rd) (hK : X.K = K := by rfl) : PS X (.AugAssign (.Attribute o f tpos) op value pos) (sFldAug K ta tv rd f) := by
  subst hK
  exact ps_fldaug ha hv hop
theorem pslL {lo hi : Option Expr} {p2 : Pos} {te : TE} {tl th : TO} (he : PE X e te) (hl : PO X lo tl) (hu : PO X hi th) (hK : X.K = K := by rfl) : PE X (.Subscript e (.Slice lo hi none p2) pos) (tSl (rSlL K) te tl th) := by
  subst hK
  exact pe_slice sl_list he hl hu
/-- list(xs) -/
theorem plist (hm : X.mg "list" = none) (he : PE X e ta) (hg : Gl X "list" := by rfl) (hs : starEach [e] X.env = (false, eval e X.env) :: starEach [] X.env := by rfl) (hpl : (backTo pos (starEach [] X.env)).any (·.1) = false := by rfl) (hK : X.K = K := by rfl) :
    PE X (.Call (.Name "list" p) [e] [] pos) (tCB (rListS K) (tCons ta tNil)) := by
  subst hK
  exact pe_callTy call_list_of hg hm (by decide +kernel) (pa_cons he pa_nil hs) (by decide) (by decide) hs hpl
theorem pbm {o e : Expr} {to te : TE} {name : Str} {apos cpos : Pos} {T id : String} {r : V → List V → Hp → VK → Prop} (pa : PlainAttrs T) (slot : Slot T name id) (hty : typeOf (.builtin id) = pure (.type "method_descriptor")) (hm : MtR X id r) (ho : PE X o to) (he : PE X e te)
    (hbase : attributeBase o name X.env (eval o X.env) = eval o X.env)
    (hfew : ((backTo cpos (starEach (e :: []) X.env)).all (fun x => !x.1) && (backToKw cpos (keywordEach [] X.env)).all (fun x => x.1.isSome)
      && decide ((e :: []).length + ([] : List Keyword).length + (if ([] : List Keyword).isEmpty then 0 else 1) < 30)) = true)
    (hline : (apos.endLine == cpos.line) = true) (hs : starEach (e :: []) X.env = (false, eval e X.env) :: starEach [] X.env) (hplain : (backTo cpos (starEach [] X.env)).any (·.1) = false) (hK : X.K = K) :
    PE X (.Call (.Attribute o name apos) [e] [] cpos) (tBM K T r to (tCons te tNil)) := by
  subst hK
  exact pe_bm pa slot hty hm ho (pa_cons he pa_nil hs) hbase hfew hline hs hplain
theorem papp {o e : Expr} {to te : TE} {apos cpos : Pos} (ho : PE X o to) (he : PE X e te)
    (hbase : attributeBase o "append" X.env (eval o X.env) = eval o X.env := by rfl)
    (hfew : ((backTo cpos (starEach (e :: []) X.env)).all (fun x => !x.1) && (backToKw cpos (keywordEach [] X.env)).all (fun x => x.1.isSome)
      && decide ((e :: []).length + ([] : List Keyword).length + (if ([] : List Keyword).isEmpty then 0 else 1) < 30)) = true := by rfl)
    (hline : (apos.endLine == cpos.line) = true := by rfl) (hs : starEach (e :: []) X.env = (false, eval e X.env) :: starEach [] X.env := by rfl) (hplain : (backTo cpos (starEach [] X.env)).any (·.1) = false := by rfl) (hK : X.K = K := by rfl) :
    PE X (.Call (.Attribute o "append" apos) [e] [] cpos) (tBM K "list" rAppend to (tCons te tNil)) := pbm K PySem.F.plainAttrs_list PySem.F.slot_list_append PySem.F.type_list_append mt_append ho he hbase hfew hline hs hplain hK
theorem pext {o e : Expr} {to te : TE} {apos cpos : Pos} (ho : PE X o to) (he : PE X e te)
    (hbase : attributeBase o "extend" X.env (eval o X.env) = eval o X.env := by rfl)
    (hfew : ((backTo cpos (starEach (e :: []) X.env)).all (fun x => !x.1) && (backToKw cpos (keywordEach [] X.env)).all (fun x => x.1.isSome)
      && decide ((e :: []).length + ([] : List Keyword).length + (if ([] : List Keyword).isEmpty then 0 else 1) < 30)) = true := by rfl)
    (hline : (apos.endLine == cpos.line) = true := by rfl) (hs : starEach (e :: []) X.env = (false, eval e X.env) :: starEach [] X.env := by rfl) (hplain : (backTo cpos (starEach [] X.env)).any (·.1) = false := by rfl) (hK : X.K = K := by rfl) :
    PE X (.Call (.Attribute o "extend" apos) [e] [] cpos) (tBM K "list" rExtend to (tCons te tNil)) := pbm K PySem.F.plainAttrs_list PySem.F.slot_list_extend PySem.F.type_list_extend mt_extend ho he hbase hfew hline hs hplain hK
theorem pindex {o e : Expr} {to te : TE} {apos cpos : Pos} (ho : PE X o to) (he : PE X e te)
    (hbase : attributeBase o "index" X.env (eval o X.env) = eval o X.env := by rfl)
    (hfew : ((backTo cpos (starEach (e :: []) X.env)).all (fun x => !x.1) && (backToKw cpos (keywordEach [] X.env)).all (fun x => x.1.isSome)
      && decide ((e :: []).length + ([] : List Keyword).length + (if ([] : List Keyword).isEmpty then 0 else 1) < 30)) = true := by rfl)
    (hline : (apos.endLine == cpos.line) = true := by rfl) (hs : starEach (e :: []) X.env = (false, eval e X.env) :: starEach [] X.env := by rfl) (hplain : (backTo cpos (starEach [] X.env)).any (·.1) = false := by rfl) (hK : X.K = K := by rfl) :
    PE X (.Call (.Attribute o "index" apos) [e] [] cpos) (tBM K "list" (rIndex K) to (tCons te tNil)) := by
  subst hK
  exact pbm X.K PySem.F.plainAttrs_list PySem.F.slot_list_index PySem.F.type_list_index mt_index ho he hbase hfew hline hs hplain rfl
def rJoin (K : PySem.W.Frag) : V → List V → Hp → VK → Prop := fun x xs H Q => ∃ a p, ∃ ys : List Str, x = .str a ∧ xs = [.ref p] ∧ (SqL K H p (ys.map V.str) ∨ SqT K H p (ys.map V.str)) ∧
      (ys.map (·.length)).sum + ys.length * a.length ≤ 16777216 ∧ Q (.str (Txt.join a ys)) H
theorem pjoin {o e : Expr} {to te : TE} {apos pos : Pos} (ho : PE X o to) (he : PE X e te) (hs : starEach [e] X.env = [(false, eval e X.env)] := by rfl) (hbase : attributeBase o "join" X.env (eval o X.env) = eval o X.env := by rfl) (hline : (apos.endLine == pos.line) = true := by rfl) (hK : X.K = K := by rfl) :
    PE X (.Call (.Attribute o "join" apos) [e] [] pos) (tM1 (rJoin K) to te) := by
  subst hK
  exact pe_join ho he hs hbase hline
end
def rSplit : V → List V → Hp → VK → Prop := fun x xs H Q => ∃ a b, x = .str a ∧ xs = [.str b] ∧ (b.length == 0) = false ∧ a.length + 2 ≤ sizeLine ∧ rNewStrs (Txt.split a b) H Q
theorem psplit {o e : Expr} {to te : TE} {apos pos : Pos} (ho : PE X o to) (he : PE X e te) (hs : starEach [e] X.env = [(false, eval e X.env)] := by rfl) (hbase : attributeBase o "split" X.env (eval o X.env) = eval o X.env := by rfl) (hline : (apos.endLine == pos.line) = true := by rfl) :
    PE X (.Call (.Attribute o "split" apos) [e] [] pos) (tM1 rSplit to te) := pe_split ho he hs hbase hline
def rIsalpha : V → List V → Hp → VK → Prop := fun x xs H Q => ∃ a, x = .str a ∧ xs = [] ∧ True ∧ Q (.bl (Txt.isalpha a)) H
theorem pisalpha {o : Expr} {to : TE} {apos pos : Pos} (ho : PE X o to) (hbase : attributeBase o "isalpha" X.env (eval o X.env) = eval o X.env := by rfl) (hline : (apos.endLine == pos.line) = true := by rfl) :
    PE X (.Call (.Attribute o "isalpha" apos) [] [] pos) (tM0 rIsalpha to) := pe_m0 PySem.F.slot_str_isalpha PySem.F.type_str_isalpha mt_isalpha ho hbase hline
def rStrI : List V → Hp → VK → Prop := fun xs H Q => ∃ i, xs = [.int i] ∧ i.natAbs.log2 < 1920 ∧ Q (.str (toString i)) H
theorem pstr (hm : X.mg "str" = none) (he : PE X e ta) (hg : Gl X "str" := by rfl) (hs : starEach [e] X.env = (false, eval e X.env) :: starEach [] X.env := by rfl) (hpl : (backTo pos (starEach [] X.env)).any (·.1) = false := by rfl) :
    PE X (.Call (.Name "str" p) [e] [] pos) (tCB rStrI (tCons ta tNil)) := pe_callTy call_str_int hg hm (by decide +kernel) (pa_cons he pa_nil hs) (by decide) (by decide) hs hpl
def rIntS : List V → Hp → VK → Prop := fun xs H Q => ∃ a n, xs = [.str a] ∧ PySem.intText? a = some n ∧ a.length ≤ 640 ∧ Q (.int n) H
theorem pintS (hm : X.mg "int" = none) (he : PE X e ta) (hg : Gl X "int" := by rfl) (hs : starEach [e] X.env = (false, eval e X.env) :: starEach [] X.env := by rfl) (hpl : (backTo pos (starEach [] X.env)).any (·.1) = false := by rfl) :
    PE X (.Call (.Name "int" p) [e] [] pos) (tCB rIntS (tCons ta tNil)) := pe_callTy call_int_str hg hm (by decide +kernel) (pa_cons he pa_nil hs) (by decide) (by decide) hs hpl
def rLenStr : List V → Hp → VK → Prop := fun xs H Q => ∃ x, xs = [.str x] ∧ x.length ≤ sizeLine ∧ Q (.int x.length) H
theorem plenS (hm : X.mg "len" = none) (he : PE X e ta) (hg : Gl X "len" := by rfl) (hs : starEach [e] X.env = (false, eval e X.env) :: starEach [] X.env := by rfl) (hpl : (backTo pos (starEach [] X.env)).any (·.1) = false := by rfl) :
    PE X (.Call (.Name "len" p) [e] [] pos) (tCB rLenStr (tCons ta tNil)) := pe_callB call_len_str hg hm PySem.boot_len (pa_cons he pa_nil hs) (by decide) (by decide) hs hpl
theorem pixs {a b : Expr} {tb : TE} (ha : PE X a ta) (hb : PE X b tb) (hs : PlainIx b := by exact (fun _ _ => rfl)) : PE X (.Subscript a b pos) (tOp rIxS ta tb) := pe_ix ix_str ha hb hs
theorem pmk (c : Mak X.prog X.w X.K X.mg X.base CX0 k x C sp) (hr : Room j X.A) (hk : k + 1 ≤ j) (hg : Gl X x) (ha : PA X (e :: es) t)
    (hdb : (x == ("__debug__" : Str)) = false := by decide) (he : starEach (e :: es) X.env = (false, eval e X.env) :: starEach es X.env := by rfl) (hpl : (backTo pos (starEach es X.env)).any (·.1) = false := by rfl) :
    PE X (.Call (.Name x p) (e :: es) [] pos) (tMake C sp [] E0 t) := by
  obtain ⟨f, fd, ps, M, F, hm, b⟩ := c.ex
  exact pe_make M F (hr.mono hk) hg hm b .nil pass0 ha hdb he hpl
theorem pmk0 (c : Mak X.prog X.w X.K X.mg X.base CX0 k x C sp) (hr : Room j X.A) (hk : k + 1 ≤ j) (hg : Gl X x)
    (hdb : (x == ("__debug__" : Str)) = false := by decide) : PE X (.Call (.Name x p) [] [] pos) (tMake C sp [] E0 tNil) := by
  obtain ⟨f, fd, ps, M, F, hm, b⟩ := c.ex
  exact pe_make0 M F (hr.mono hk) hg hm b .nil pass0 hdb
def rOrd : List V → Hp → VK → Prop := fun xs H Q => ∃ x, xs = [.str x] ∧ x.length = 1 ∧ Q (.int (x.cps.getD 0 0 : Nat)) H
theorem pord (hm : X.mg "ord" = none) (he : PE X e ta) (hg : Gl X "ord" := by rfl) (hs : starEach [e] X.env = (false, eval e X.env) :: starEach [] X.env := by rfl) (hpl : (backTo pos (starEach [] X.env)).any (·.1) = false := by rfl) :
    PE X (.Call (.Name "ord" p) [e] [] pos) (tCB rOrd (tCons ta tNil)) := pe_callB call_ord hg hm (by decide +kernel) (pa_cons he pa_nil hs) (by decide) (by decide) hs hpl
def rMin2 : List V → Hp → VK → Prop := fun xs H Q => ∃ i j, xs = [.int i, .int j] ∧ Q (.int (if j < i then j else i)) H
theorem pmin {b : Expr} {tb : TE} (hm : X.mg "min" = none) (he : PE X e ta) (hb : PE X b tb) (hc : X.calm = true := by rfl) (hg : Gl X "min" := by rfl) (hs : starEach [e, b] X.env = (false, eval e X.env) :: starEach [b] X.env := by rfl) (hs2 : starEach [b] X.env = (false, eval b X.env) :: starEach [] X.env := by rfl) (hpl : (backTo pos (starEach [b] X.env)).any (·.1) = false := by rfl) :
    PE X (.Call (.Name "min" p) [e, b] [] pos) (tCB rMin2 (tCons ta (tCons tb tNil))) := pe_callB (call_min2 hc) hg hm (by decide +kernel) (pa_cons he (pa_cons hb pa_nil hs2) hs) (by decide) (by decide) hs hpl
end
theorem hu65 {A : Around} {k : Nat} (hr : Room k A) : A.units + 65 < cLine := by
  have := hr.un
  omega
end N
set_option Elab.async false
set_option linter.all false
set_option maxRecDepth 100000
set_option maxHeartbeats 4000000
namespace N
open PySem PySem.Spec PyProof.Rows L2 Evl
open NM (vI rI FBk)
abbrev Fld := Vbenaf.Field
/-- a text of codes -/
abbrev S (l : List Nat) : Str := ⟨l.toArray⟩
def vints (l : List Int) : List V := l.map V.int
def vnats (l : List Nat) : List V := l.map fun (n : Nat) => V.int (n : Int)
def vstrs (l : List (List Nat)) : List V := l.map fun b => V.str (S b)
def vrefs (l : List Addr) : List V := l.map V.ref
/-! ### attributes by name -/
theorem lk_here {k : Str} {v : V} {r : List (Str × V)} : List.lookup k ((k, v) :: r) = some v := by
  have e : (k == k) = true := beq_self_eq_true k
  simp only [List.lookup, e]
theorem lk_past {k g : Str} {v : V} {r : List (Str × V)} (h : (k == g) = false) : List.lookup k ((g, v) :: r) = List.lookup k r := by
  simp only [List.lookup, h]
theorem lk_nil {k : Str} : List.lookup k ([] : List (Str × V)) = none := rfl
theorem put_here {f : Str} {v x : V} {r : List (Str × V)} : putF f v ((f, x) :: r) = (f, v) :: r := if_pos rfl
theorem put_past {f g : Str} {v x : V} {r : List (Str × V)} (h : ¬ g = f) : putF f v ((g, x) :: r) = (g, x) :: putF f v r := if_neg h
theorem put_nil {f : Str} {v : V} : putF f v [] = [(f, v)] := rfl
/-! ### heaps that grow -/
section
variable {K : PySem.W.Frag} {σ : L2.St} {H H' : Hp} {ta tb te to : TE} {t : TA} {x y z v : V}
theorem ev_fld {a C dx : Addr} {fs : List (Str × V)} {f : Str} (h : Ev ta σ H (.ref a)) (ha : H a = some (.ins C dx fs)) (c : Cls K C) (n : NoAttr K C f) (l : fs.lookup f = some v) : Ev (tFld K ta f) σ H v :=
  fun H1 e1 Q k => h H1 e1 _ fun H2 e2 => ⟨a, C, dx, fs, v, rfl, (e1.trans e2) _ _ ha, c, n, l, k H2 e2⟩
theorem ev_mth {a C dx : Addr} {fs : List (Str × V)} {m : Str} {sp : Sp} {E : XK} {vs : List V} (h : Ev to σ H (.ref a)) (ha : H a = some (.ins C dx fs)) (l : fs.lookup m = none) (hv : EvA t σ H vs) (hs : SpV sp (.ref a :: vs) H z) : Ev (tMeth C m sp [] E to t) σ H z :=
  fun H1 e1 Q k => h H1 e1 _ fun H2 e2 => ⟨a, dx, fs, rfl, (e1.trans e2) _ _ ha, l, hv H2 (e1.trans e2) _ fun H3 e3 => by
    rw [List.append_nil]
    exact hs H3 ((e1.trans e2).trans e3) _ (fun H4 e4 => k H4 ((e2.trans e3).trans e4)) _⟩
theorem el_mth {a C dx : Addr} {fs : List (Str × V)} {m : Str} {sp : Sp} {E : XK} {vs xs : List V} (h : Ev to σ H (.ref a)) (ha : H a = some (.ins C dx fs)) (l : fs.lookup m = none) (hv : EvA t σ H vs) (hs : SpL sp (.ref a :: vs) H xs) : EvL (tMeth C m sp [] E to t) σ H xs :=
  fun H1 e1 Q k => h H1 e1 _ fun H2 e2 => ⟨a, dx, fs, rfl, (e1.trans e2) _ _ ha, l, hv H2 (e1.trans e2) _ fun H3 e3 => by
    rw [List.append_nil]
    exact hs H3 ((e1.trans e2).trans e3) _ (fun p H4 n e4 hp => k p H4 (fresh_back (e2.trans e3) n) ((e2.trans e3).trans e4) hp) _⟩
end
theorem ev_lenE {K : PySem.W.Frag} {σ : L2.St} {H : Hp} {ta : TE} {p : Addr} {xs : List V} {n : Int} (ha : Ev ta σ H (.ref p)) (h : H p = some (.lst xs)) (e : (xs.length : Int) = n) : Ev (tCB (rLenS K) (tCons ta tNil)) σ H (.int n) := ev_is (ev_len ha (sq_of h)) (by rw [e])
theorem ea_one {σ : L2.St} {H : Hp} {ta : TE} {v : V} (h : Ev ta σ H v) : EvA (tCons ta tNil) σ H [v] := ea_cons h ea_nil
theorem ea_two {σ : L2.St} {H : Hp} {ta tb : TE} {v u : V} (h : Ev ta σ H v) (h2 : Ev tb σ H u) : EvA (tCons ta (tCons tb tNil)) σ H [v, u] := ea_cons h (ea_one h2)
theorem ev_fldE {K : PySem.W.Frag} {σ : L2.St} {H H0 : Hp} {ta : TE} {v : V} {a C dx : Addr} {fs : List (Str × V)} {f : Str} (h : Ev ta σ H (.ref a)) (e : Ex H0 H) (ha : H0 a = some (.ins C dx fs)) (c : Cls K C) (n : NoAttr K C f) (l : fs.lookup f = some v) : Ev (tFld K ta f) σ H v := ev_fld h (e _ _ ha) c n l
theorem vstrs_len (l : List (List Nat)) : ((vstrs l).length : Int) = (l.length : Int) := by simp [vstrs]
theorem vrefs_len (l : List Addr) : (vrefs l).length = l.length := by simp [vrefs]
theorem vints_len (l : List Int) : (vints l).length = l.length := by simp [vints]
theorem vnats_len (l : List Nat) : (vnats l).length = l.length := by simp [vnats]
/-- promises of defs that change nothing: a value | a new list is handed back -/
def pV (A : List V → Hp → V → Prop) : Sp := fun vs H Q _ => ∃ v, A vs H v ∧ RetV v H Q
def pL (A : List V → Hp → List V → Prop) : Sp := fun vs H Q _ => ∃ xs, A vs H xs ∧ RetL xs H Q
theorem pV.sp {A : List V → Hp → V → Prop} {vs : List V} {H : Hp} {v : V} (h : ∀ H1, Ex H H1 → A vs H1 v) : SpV (pV A) vs H v := fun H1 e Q k E => ⟨v, h H1 e, k⟩
theorem pL.sp {A : List V → Hp → List V → Prop} {vs xs : List V} {H : Hp} (h : ∀ H1, Ex H H1 → A vs H1 xs) : SpL (pL A) vs H xs := fun H1 e Q k E => ⟨xs, h H1 e, fun p H2 n e2 hp => k p H2 n e2 hp⟩
/-! ### a field in the heap -/
def Tups (H : Hp) : List Addr → List (Nat × Nat) → Prop
  | [], [] => True
  | a :: as, l :: ls => H a = some (.tup [.int (l.1 : Int), .int (l.2 : Int)]) ∧ Tups H as ls
  | _, _ => False
def Rows (H : Hp) : List Addr → List (List Int) → Prop
  | [], [] => True
  | a :: as, l :: ls => H a = some (.lst (vints l)) ∧ Rows H as ls
  | _, _ => False
theorem Tups.ex {H H' : Hp} (e : Ex H H') : ∀ {as : List Addr} {ls : List (Nat × Nat)}, Tups H as ls → Tups H' as ls
  | [], [], _ => trivial
  | _ :: _, _ :: _, h => ⟨e _ _ h.1, Tups.ex e h.2⟩
theorem Rows.ex {H H' : Hp} (e : Ex H H') : ∀ {as : List Addr} {ls : List (List Int)}, Rows H as ls → Rows H' as ls
  | [], [], _ => trivial
  | _ :: _, _ :: _, h => ⟨e _ _ h.1, Rows.ex e h.2⟩
theorem Rows.len {H : Hp} : ∀ {as : List Addr} {ls : List (List Int)}, Rows H as ls → as.length = ls.length
  | [], [], _ => rfl
  | _ :: _, _ :: _, h => congrArg Nat.succ (Rows.len h.2)
theorem Rows.get {H : Hp} : ∀ {as : List Addr} {ls : List (List Int)} {i : Nat} {l : List Int}, Rows H as ls → ls[i]? = some l → ∃ a, as[i]? = some a ∧ H a = some (.lst (vints l))
  | [], [], i, l, _, h => by cases i <;> cases h
  | a :: as, r :: ls, 0, l, h, e => ⟨a, rfl, by cases e; exact h.1⟩
  | a :: as, r :: ls, i + 1, l, h, e => Rows.get (i := i) h.2 e
theorem Tups.len {H : Hp} : ∀ {as : List Addr} {ls : List (Nat × Nat)}, Tups H as ls → as.length = ls.length
  | [], [], _ => rfl
  | _ :: _, _ :: _, h => congrArg Nat.succ (Tups.len h.2)
/-- its attributes, in the order in which __init__ sets them -/
def fF (n : Int) (ln ll lt la lr lb : Addr) : List (Str × V) := [("holes", .int n), ("names", .ref ln), ("lets", .ref ll), ("table", .ref lt), ("above", .ref la), ("ranks", .ref lr), ("best", .ref lb)]
/-- where its parts lie -/
structure FAd where
  dx : Addr
  ln : Addr
  ll : Addr
  lt : Addr
  la : Addr
  lr : Addr
  lb : Addr
  ps : List Addr
  as : List Addr
  rs : List Addr
/-- a field whose ranks and best ways are these so far -/
structure FldL (C : Addr) (H : Hp) (a : Addr) (A : FAd) (f : Fld) (rk : List Int) (bs : List (List Int)) : Prop where
  o : H a = some (.ins C A.dx (fF (f.holes : Int) A.ln A.ll A.lt A.la A.lr A.lb))
  n : H A.ln = some (.lst (vstrs f.values))
  l : H A.ll = some (.lst (vrefs A.ps))
  p : Tups H A.ps f.lets
  t : H A.lt = some (.lst (f.table.map fun v => V.int (vI v)))
  a : H A.la = some (.lst (vrefs A.as))
  w : Rows H A.as (NM.abAll f)
  r : H A.lr = some (.lst (vints rk))
  b : H A.lb = some (.lst (vrefs A.rs))
  q : Rows H A.rs bs
def FldW (C : Addr) (H : Hp) (a : Addr) (f : Fld) (rk : List Int) (bs : List (List Int)) : Prop := ∃ A, FldL C H a A f rk bs
theorem FldL.ex {C : Addr} {H H' : Hp} {a : Addr} {A : FAd} {f : Fld} {rk : List Int} {bs : List (List Int)} (h : FldL C H a A f rk bs) (e : Ex H H') : FldL C H' a A f rk bs :=
  ⟨e _ _ h.o, e _ _ h.n, e _ _ h.l, h.p.ex e, e _ _ h.t, e _ _ h.a, h.w.ex e, e _ _ h.r, e _ _ h.b, h.q.ex e⟩
theorem FldW.ex {C : Addr} {H H' : Hp} {a : Addr} {f : Fld} {rk : List Int} {bs : List (List Int)} (h : FldW C H a f rk bs) (e : Ex H H') : FldW C H' a f rk bs := by
  obtain ⟨A, h⟩ := h
  exact ⟨A, h.ex e⟩
theorem vints_nI (l : List Nat) : vints (NM.nI l) = vnats l := by
  unfold vints vnats NM.nI
  rw [List.map_map]
  rfl
section
variable {n : Int} {ln ll lt la lr lb : Addr}
theorem fF_holes : (fF n ln ll lt la lr lb).lookup ("holes" : Str) = some (.int n) := lk_here
theorem fF_names : (fF n ln ll lt la lr lb).lookup ("names" : Str) = some (.ref ln) := (lk_past (by decide +kernel)).trans lk_here
theorem fF_lets : (fF n ln ll lt la lr lb).lookup ("lets" : Str) = some (.ref ll) := (lk_past (by decide +kernel)).trans ((lk_past (by decide +kernel)).trans lk_here)
theorem fF_table : (fF n ln ll lt la lr lb).lookup ("table" : Str) = some (.ref lt) := (lk_past (by decide +kernel)).trans ((lk_past (by decide +kernel)).trans ((lk_past (by decide +kernel)).trans lk_here))
theorem fF_above : (fF n ln ll lt la lr lb).lookup ("above" : Str) = some (.ref la) := (lk_past (by decide +kernel)).trans ((lk_past (by decide +kernel)).trans ((lk_past (by decide +kernel)).trans ((lk_past (by decide +kernel)).trans lk_here)))
theorem fF_ranks : (fF n ln ll lt la lr lb).lookup ("ranks" : Str) = some (.ref lr) := (lk_past (by decide +kernel)).trans ((lk_past (by decide +kernel)).trans ((lk_past (by decide +kernel)).trans ((lk_past (by decide +kernel)).trans ((lk_past (by decide +kernel)).trans lk_here))))
theorem fF_best : (fF n ln ll lt la lr lb).lookup ("best" : Str) = some (.ref lb) := (lk_past (by decide +kernel)).trans ((lk_past (by decide +kernel)).trans ((lk_past (by decide +kernel)).trans ((lk_past (by decide +kernel)).trans ((lk_past (by decide +kernel)).trans ((lk_past (by decide +kernel)).trans lk_here)))))
theorem fF_no {m : Str} (h : (["holes", "names", "lets", "table", "above", "ranks", "best"] : List Str).all (fun g => !(m == g)) = true) : (fF n ln ll lt la lr lb).lookup m = none := by
  simp only [List.all_cons, List.all_nil, Bool.and_true, Bool.and_eq_true, Bool.not_eq_true'] at h
  obtain ⟨h1, h2, h3, h4, h5, h6, h7⟩ := h
  exact (lk_past h1).trans ((lk_past h2).trans ((lk_past h3).trans ((lk_past h4).trans ((lk_past h5).trans ((lk_past h6).trans ((lk_past h7).trans lk_nil))))))
end
section
variable {K : PySem.W.Frag} {σ : L2.St} {H H' : Hp} {ta tb te to : TE} {t : TA} {x y z v : V}
theorem ev_opU1 {r : R2} {xs : List V} (ha : EvU ta σ H xs) (hb : Ev tb σ H y) (hr : ∀ p H1, H1 p = some (.tup xs) → Ex H H1 → RV r (.ref p) y H1 z) : Ev (tOp r ta tb) σ H z :=
  fun H1 e1 Q k => ha H1 e1 _ fun p H2 n e2 hp => hb H2 (e1.trans e2) _ fun H3 e3 => hr p H3 (e3 _ _ hp) ((e1.trans e2).trans e3) H3 (Ex.refl _) Q fun H4 e4 => k H4 ((e2.trans e3).trans e4)
/-- a list of pairs of whole numbers, as data -/
def prP (z : Int × Int) : PyData := .tuple [.int z.1, .int z.2]
theorem prP_lays (zs : List (Int × Int)) : PyData.canLayAll0 (zs.map prP) = true := by
  induction zs with
  | nil => simp [PyData.canLayAll0]
  | cons z zs ih => simp [PyData.canLayAll0, ih, prP, PyData.canLay0]
theorem prP_depths (zs : List (Int × Int)) : PyData.depthAll (zs.map prP) ≤ 1 := by
  induction zs with
  | nil => simp [PyData.depthAll]
  | cons z zs ih =>
    simp only [List.map_cons, PyData.depthAll, prP, PyData.depth]
    omega
theorem prP_shaped (z : Int × Int) : SeqAt.shaped (prP z) = true := by
  simp [SeqAt.shaped, prP, PyData.canLay0, PyData.canLayAll0, PyData.depth, PyData.depthAll]
theorem prPs_shaped (zs : List (Int × Int)) : SeqAt.shaped (.list (zs.map prP)) = true := by
  have h1 := prP_depths zs
  have h2 : PyData.depth (.list (zs.map prP)) ≤ 64 := by
    simp only [PyData.depth]
    omega
  show (PyData.canLay0 (.list (zs.map prP)) && decide (PyData.depth (.list (zs.map prP)) ≤ 64)) = true
  rw [Bool.and_eq_true]
  exact ⟨by simp only [PyData.canLay0]; exact prP_lays zs, decide_eq_true h2⟩
theorem prP_eqv (z w : Int × Int) : PyData.eqv (prP z) (prP w) = decide (z = w) := by
  obtain ⟨a, b⟩ := z
  obtain ⟨c, d⟩ := w
  simp only [prP, PyData.eqv, PyData.eqvAll, Bool.and_true]
  rw [Bool.eq_iff_iff, Bool.and_eq_true, beq_iff_eq, beq_iff_eq, decide_eq_true_eq, Prod.mk.injEq]
theorem rv_inP {a p : Addr} {ps : List Addr} {i j : Int} {ls : List (Nat × Nat)} (hl : H p = some (.lst (vrefs ps))) (hp : Tups H ps ls) (ht : H a = some (.tup [.int i, .int j])) :
    RV (rInD K) (.ref a) (.ref p) H (.bl (ls.any fun l => decide (((l.1 : Int), (l.2 : Int)) = (i, j)))) := by
  intro H1 e1 Q k
  refine ⟨prP (i, j), (ls.map fun l => ((l.1 : Int), (l.2 : Int))).map prP, .tup (st_of (e1 _ _ ht)) (.cons (.int i) (.cons (.int j) .nil)), .lst (sq_of (e1 _ _ hl)) ?_, prP_shaped _, prPs_shaped _, ?_⟩
  · have hp1 := hp.ex e1
    clear hl hp k
    induction ps generalizing ls with
    | nil =>
      cases ls with
      | nil => exact .nil
      | cons _ _ => exact hp1.elim
    | cons q ps ih =>
      cases ls with
      | nil => exact hp1.elim
      | cons l ls => exact .cons (.tup (st_of hp1.1) (.cons (.int _) (.cons (.int _) .nil))) (ih hp1.2)
  · have e : (((ls.map fun l => ((l.1 : Int), (l.2 : Int))).map prP).any fun z => PyData.eqv z (prP (i, j))) = ls.any fun l => decide (((l.1 : Int), (l.2 : Int)) = (i, j)) := by
      rw [List.map_map, List.any_map]
      exact congrArg (fun p => ls.any p) (funext fun l => prP_eqv _ _)
    rw [e]
    exact k H1 (Ex.refl _)
end
end N
set_option Elab.async false
set_option linter.all false
set_option maxRecDepth 100000
set_option maxHeartbeats 4000000
namespace NM
theorem bitAnd_nat (a b : Nat) : PySem.Builtin.bitAnd (a : Int) (b : Int) = ((a &&& b : Nat) : Int) := by
  unfold PySem.Builtin.bitAnd
  rw [decide_eq_true (Int.natCast_nonneg a), decide_eq_true (Int.natCast_nonneg b)]
  rfl
theorem bl_int_eq (a b : Nat) : (L2.V.bl (decide (L2.V.int (a : Int) = L2.V.int (b : Int)))) = .bl (decide (a = b)) := by
  congr 1
  rw [Bool.eq_iff_iff, decide_eq_true_eq, decide_eq_true_eq, L2.V.int.injEq]
  omega
theorem bl_vI_eq (a : Option Nat) (b : Nat) : (L2.V.bl (decide (L2.V.int (vI a) = L2.V.int (b : Int)))) = .bl (decide (a = some b)) := by
  congr 1
  rw [Bool.eq_iff_iff, decide_eq_true_eq, decide_eq_true_eq, L2.V.int.injEq]
  have z := vI_eq (a := a) (b := some b)
  exact z
theorem more_len (f : Vbenaf.Field) (s : Nat) : (more f s).length ≤ Vbenaf.states f := by
  unfold more
  refine Nat.le_trans (List.length_filter_le _ _) ?_
  rw [List.length_range]
  exact Nat.le_refl _
end NM
namespace N
open PySem PySem.Spec PyProof.Rows L2 Evl
open NM (vI rI FBk)
section
variable {K : PySem.W.Frag} {σ : L2.St} {H H' : Hp} {ta tb te tl : TE} {t : TT} {x y z v : V} {α : Type}
theorem ev_opVL {r : R2} {ys : List V} (ha : Ev ta σ H x) (hb : EvL tb σ H ys) (hr : ∀ q H1, H1 q = some (.lst ys) → Ex H H1 → RV r x (.ref q) H1 z) : Ev (tOp r ta tb) σ H z :=
  fun H1 e1 Q k => ha H1 e1 _ fun H2 e2 => hb H2 (e1.trans e2) _ fun q H3 n e3 hq => hr q H3 hq ((e1.trans e2).trans e3) H3 (Ex.refl _) Q fun H4 e4 => k H4 ((e2.trans e3).trans e4)
theorem ev_glob {v : V} : Ev (tC v) σ H v := ev_c
theorem ev_lenNE {xs : List V} {n : Int} (ha : EvL ta σ H xs) (e : (xs.length : Int) = n) : Ev (tCB (rLenS K) (tCons ta tNil)) σ H (.int n) := ev_is (ev_lenN ha) (by rw [e])
theorem given_map (l : List α) (c : α → V) (g : α → Bool) (v : α → V) (g' : Nat → Bool) (v' : Nat → V) (hg : ∀ i a, l[i]? = some a → g' i = g a) (hv : ∀ i a, l[i]? = some a → v' i = v a) : given l.length g' v' = (l.filter g).map v := by
  unfold given
  induction l generalizing g' v' with
  | nil => rfl
  | cons a l ih =>
    have h0 := hg 0 a rfl
    have ih' := ih (fun i => g' (i + 1)) (fun i => v' (i + 1)) (fun i b h => hg (i + 1) b h) (fun i b h => hv (i + 1) b h)
    rw [List.length_cons, List.range_succ_eq_map, List.filter_cons, List.filter_cons, List.filter_map, h0]
    have e : (fun x => g' (Nat.succ x)) = (g' ∘ Nat.succ) := rfl
    by_cases hc : g a = true
    · rw [if_pos hc, if_pos hc, List.map_cons, List.map_cons, List.map_map, hv 0 a rfl]
      congr 1
    · rw [if_neg hc, if_neg hc, List.map_map]
      exact ih'
/-- a comprehension over the items of a list of data -/
theorem el_lcLm {a : Addr} {l : List α} {c : α → V} {g : α → Bool} {v : α → V} {j : Nat} {vs : List Nat} (h : Ev tl σ H (.ref a)) (hx : H a = some (.lst (l.map c))) (hz : l.length ≤ 40000) (hw : ∀ x, wipe ((wipe σ vs).set j (some x)) vs = wipe σ vs)
    (ht : ∀ (o : α) H1, Ex H H1 → o ∈ l → EvT t ((wipe σ vs).set j (some (c o))) H1 (g o)) (he : ∀ (o : α) H1, Ex H H1 → o ∈ l → g o = true → Ev te ((wipe σ vs).set j (some (c o))) H1 (v o)) :
    EvL (tLc (iList K tl) (gName j) t te vs) σ H ((l.filter g).map v) := by
  have e := given_map l c g v (fun i => (l[i]?.map g).getD false) (fun i => (l[i]?.map v).getD .non) (fun i o ho => by rw [ho]; rfl) (fun i o ho => by rw [ho]; rfl)
  rw [← e]
  have k := el_lcL (K := K) (t := t) (te := te) (xs := l.map c) (vs := vs) (j := j) (fun i => (l[i]?.map g).getD false) (fun i => (l[i]?.map v).getD .non) h (sq_of hx) (by rw [List.length_map]; exact hz) hw (fun i x H1 e1 hi => by
    rw [List.getElem?_map] at hi
    cases ho : l[i]? with
    | none => rw [ho] at hi; cases hi
    | some o =>
      rw [ho] at hi
      have : x = c o := (Option.some.inj hi).symm
      subst this
      exact ht o H1 e1 (List.mem_of_getElem? ho)) (fun i x H1 e1 hi hf => by
    rw [List.getElem?_map] at hi
    cases ho : l[i]? with
    | none => rw [ho] at hi; cases hi
    | some o =>
      rw [ho] at hi hf
      have : x = c o := (Option.some.inj hi).symm
      subst this
      exact he o H1 e1 (List.mem_of_getElem? ho) hf)
  rw [List.length_map] at k
  exact k
/-- .. over a new list -/
theorem el_lcNLm {l : List α} {c : α → V} {g : α → Bool} {v : α → V} {j : Nat} {vs : List Nat} (h : EvL tl σ H (l.map c)) (hz : l.length ≤ 40000) (hw : ∀ x, wipe ((wipe σ vs).set j (some x)) vs = wipe σ vs)
    (ht : ∀ (o : α) H1, Ex H H1 → o ∈ l → EvT t ((wipe σ vs).set j (some (c o))) H1 (g o)) (he : ∀ (o : α) H1, Ex H H1 → o ∈ l → g o = true → Ev te ((wipe σ vs).set j (some (c o))) H1 (v o)) :
    EvL (tLc (iList K tl) (gName j) t te vs) σ H ((l.filter g).map v) := by
  have e := given_map l c g v (fun i => (l[i]?.map g).getD false) (fun i => (l[i]?.map v).getD .non) (fun i o ho => by rw [ho]; rfl) (fun i o ho => by rw [ho]; rfl)
  rw [← e]
  have k := el_lcNL (K := K) (t := t) (te := te) (xs := l.map c) (vs := vs) (j := j) (fun i => (l[i]?.map g).getD false) (fun i => (l[i]?.map v).getD .non) h (by rw [List.length_map]; exact hz) hw (fun i x H1 e1 hi => by
    rw [List.getElem?_map] at hi
    cases ho : l[i]? with
    | none => rw [ho] at hi; cases hi
    | some o =>
      rw [ho] at hi
      have : x = c o := (Option.some.inj hi).symm
      subst this
      exact ht o H1 e1 (List.mem_of_getElem? ho)) (fun i x H1 e1 hi hf => by
    rw [List.getElem?_map] at hi
    cases ho : l[i]? with
    | none => rw [ho] at hi; cases hi
    | some o =>
      rw [ho] at hi hf
      have : x = c o := (Option.some.inj hi).symm
      subst this
      exact he o H1 e1 (List.mem_of_getElem? ho) hf)
  rw [List.length_map] at k
  exact k
/-- .. over range(lo, hi) -/
theorem el_lcR2m {ta : TA} {j : Nat} {vs : List Nat} {lo hi : Nat} {g : Nat → Bool} {v : Nat → V} (h : EvA ta σ H [.int ((lo : Nat) : Int), .int ((hi : Nat) : Int)]) (h1 : lo ≤ 40000) (h2 : hi ≤ 40000) (hw : ∀ x, wipe ((wipe σ vs).set j (some x)) vs = wipe σ vs)
    (ht : ∀ (i : Nat) H1, Ex H H1 → lo ≤ i → i < hi → EvT t ((wipe σ vs).set j (some (.int (i : Int)))) H1 (g i)) (he : ∀ (i : Nat) H1, Ex H H1 → lo ≤ i → i < hi → g i = true → Ev te ((wipe σ vs).set j (some (.int (i : Int)))) H1 (v i)) :
    EvL (tLc (iRng2 ta) (gName j) t te vs) σ H ((((List.range (hi - lo)).map fun i => lo + i).filter g).map v) := by
  have eg : given (hi - lo) (fun i => g (lo + i)) (fun i => v (lo + i)) = (((List.range (hi - lo)).map fun i => lo + i).filter g).map v := by
    unfold given
    rw [List.filter_map, List.map_map]
    rfl
  rw [← eg]
  exact fun H0 e Q q => h H0 e _ fun H1 e1 => ⟨(lo : Int), (hi : Int), rfl, by omega, fun Dl hD => by
    have en : ((hi : Int) - (lo : Int)).toNat = hi - lo := by omega
    rw [en]
    refine lc_range (lo := (lo : Int)) (n := hi - lo) (Cw H1 (fun i => g (lo + i)) (fun i => v (lo + i)) Dl) ⟨hD, Ex.new hD, upd_same⟩ (fun i H' hi' p => ?_) (fun H' p => q Dl H' (fresh_back e1 p.1) (e1.trans p.2.1) p.2.2)
    have e0 : (lo : Int) + (i : Int) = ((lo + i : Nat) : Int) := by omega
    rw [e0]
    exact ⟨hw _, cw_turn p (by omega) (ht (lo + i) H1 (e.trans e1) (by omega) (by omega)) (fun hf => he (lo + i) H1 (e.trans e1) (by omega) (by omega) hf)⟩⟩
/-- the value of a state, read off the table -/
theorem v_ix {p : Addr} {fl : Fld} {s : Nat} (ha : Ev ta σ H (.ref p)) (hx : H p = some (.lst (fl.table.map fun v => V.int (vI v)))) (hb : Ev tb σ H (.int (s : Int))) (ok : FBk fl) (hs : s < Vbenaf.states fl) : Ev (tOp (rIxL K) ta tb) σ H (.int (vI (Vbenaf.valueOf fl s))) :=
  ev_op ha hb (rv_ixL (sq_of hx) (atI_nat (by rw [List.getElem?_map, NM.val_get ok hs]; rfl)))
end
end N
namespace NM
theorem take_snoc {α : Type} {l : List α} {i : Nat} {x : α} (h : l[i]? = some x) : l.take (i + 1) = l.take i ++ [x] := by
  rw [List.take_succ, h]
  rfl
/-- what stands in the row of the best ways so far -/
theorem bl_mem {f : Vbenaf.Field} {P : List Nat} {w : Nat} {b : Int} (hw : w < f.values.length) (h : (bl f P)[w]? = some b) : b = -1 ∨ ∃ u : Nat, b = (u : Int) ∧ u ∈ P ∧ Vbenaf.valueOf f u = some w := by
  rw [bl_get hw] at h
  have h := Option.some.inj h
  cases e : bw f w P with
  | none => rw [e] at h; exact .inl h.symm
  | some x =>
    rw [e] at h
    exact .inr ⟨x.2, h.symm, (bw_mem f w P e).1, bw_val f w P e⟩
end NM
namespace N
open PySem PySem.Spec PyProof.Rows L2 Evl
open NM (vI rI FBk)
section
variable {K : PySem.W.Frag} {σ : L2.St} {H H' : Hp} {ta tb te tl : TE} {t : TT} {x y z v : V} {α : Type}
theorem el_rep {n : Nat} {xs : List V} (ha : EvL ta σ H xs) (hb : ∀ H1, Ex H H1 → Ev tb σ H1 (.int (n : Int))) (hz : xs.length * n ≤ 40000) (hn : n ≤ 40000) : EvL (tOp rRep ta tb) σ H (List.replicate n xs).flatten :=
  fun H1 e1 Q k => ha H1 e1 _ fun p H2 n2 e2 hp => hb H2 (e1.trans e2) H2 (Ex.refl _) _ fun H3 e3 => ⟨p, (n : Int), xs, rfl, rfl, e3 _ _ hp, by omega, by omega, by
    rw [Int.toNat_natCast]
    exact sz_of (by omega), fun q nq => k q _ (fresh_back (e2.trans e3) nq) ((e2.trans e3).trans (Ex.new nq)) (by rw [Int.toNat_natCast]; exact upd_same)⟩
theorem flat_rep (n : Nat) (v : V) : (List.replicate n [v]).flatten = List.replicate n v := by
  induction n with
  | zero => rfl
  | succ n ih =>
    rw [List.replicate_succ, List.flatten_cons, ih]
    rfl
/-- an item of a list of whole numbers -/
theorem i_ix {p : Addr} {l : List Int} {j : Nat} {i : Int} (ha : Ev ta σ H (.ref p)) (hx : H p = some (.lst (vints l))) (hb : Ev tb σ H (.int (j : Int))) (hi : l[j]? = some i) : Ev (tOp (rIxL K) ta tb) σ H (.int i) :=
  ev_op ha hb (rv_ixL (sq_of hx) (atI_nat (by rw [vints, List.getElem?_map, hi]; rfl)))
/-- a row of a list of rows -/
theorem r_ix {p : Addr} {rs : List Addr} {ls : List (List Int)} {j : Nat} {l : List Int} (ha : Ev ta σ H (.ref p)) (hx : H p = some (.lst (vrefs rs))) (hr : Rows H rs ls) (hb : Ev tb σ H (.int (j : Int))) (hi : ls[j]? = some l) : ∃ q, H q = some (.lst (vints l)) ∧ Ev (tOp (rIxL K) ta tb) σ H (.ref q) := by
  obtain ⟨q, hq, hl⟩ := hr.get hi
  exact ⟨q, hl, ev_op ha hb (rv_ixL (sq_of hx) (atI_nat (by rw [vrefs, List.getElem?_map, hq]; rfl)))⟩
theorem ev_min2 {i j : Int} (ha : Ev ta σ H (.int i)) (hb : Ev tb σ H (.int j)) : Ev (tCB rMin2 (tCons ta (tCons tb tNil))) σ H (.int (if j < i then j else i)) :=
  ev_cb (ea_two ha hb) fun H1 _ Q k => ⟨i, j, rfl, k H1 (Ex.refl _)⟩
end
/-- the ranks of the greater states that have a value are there -/
def RkFrom (f : Fld) (rk : List Int) (s : Nat) : Prop := ∀ t, s < t → t < Vbenaf.states f → Vbenaf.valueOf f t ≠ none → rk[t]? = some (rI (Vbenaf.rank f t))
end N
set_option Elab.async false
set_option linter.all false
set_option maxRecDepth 100000
set_option maxHeartbeats 4000000
namespace N
open PySem PySem.Spec PyProof.Rows L2 Evl
open NM (vI rI FBk)
def top (i : Nat) : Stmt := PySem.Challenge.pw_notchcards_s01_answers.main.body.getD i (.Pass ⟨0, 0, 0, 0⟩)
abbrev gi (mg : Str → Option Value) (x : Str) (i : Int) : Prop := ∃ t, mg x = some (.int i t)
abbrev gs (mg : Str → Option Value) (x : Str) (z : Str) : Prop := ∃ t, mg x = some (.str z t)
/-- what the top says of names -/
structure Txt (K : PySem.W.Frag) (mg : Str → Option Value) (CF : Addr) : Prop where
  cF : Cls K CF
  nHoles : NoAttr K CF "holes"
  nNames : NoAttr K CF "names"
  nLets : NoAttr K CF "lets"
  nTable : NoAttr K CF "table"
  nAbove : NoAttr K CF "above"
  nRanks : NoAttr K CF "ranks"
  nBest : NoAttr K CF "best"
  len : mg "len" = none
  range : mg "range" = none
  list : mg "list" = none
  str : mg "str" = none
  int : mg "int" = none
  ord : mg "ord" = none
  min : mg "min" = none
  NO_VALUE : gi mg "NO_VALUE" (-1)
  NO_WAY : gi mg "NO_WAY" (-1)
  NO_END : gi mg "NO_END" 1000
end N
set_option Elab.async false
set_option linter.all false
set_option maxRecDepth 100000
set_option maxHeartbeats 4000000
namespace N
open PySem PySem.Spec PyProof.Rows L2 Evl
open NM (vI rI FBk)
section
variable {P : Program} {w : World} {K : PySem.W.Frag} {mg : Str → Option Value} {base : Heap} {CF : Addr}
-- def asked_from(self, own):
--     if own == NO_VALUE or len(self.lets) == 0:
--         return [value for value in range(len(self.names)) if value != own]
--     return [value for value in range(len(self.names)) if (own, value) in self.lets]
-- slots 0:self 1:own 2:value
abbrev sField_asked_from : Stmt := inClass (top 15) 5
theorem scField_asked_from : FnScope ["self", "own", "value"] ["self", "own"] (defScope sField_asked_from) := ⟨rfl, rfl, rfl, by decide +kernel, rfl, by decide +kernel, by decide +kernel⟩
def spF_asked_from (CF : Addr) : Sp := pL fun vs H xs => ∃ (a : Addr) (v : Option Nat) (f : Fld) (rk : List Int) (bs : List (List Int)), vs = [.ref a, .int (vI v)] ∧ FldW CF H a f rk bs ∧ FBk f ∧ xs = vnats (Vbenaf.askedOf f v)
theorem okF_asked_from {f : Addr} {fd : FuncData} (F : Fun K "asked_from" "Field.asked_from" sField_asked_from f fd) (T : Txt K mg CF) : FnOk P w K mg base CX0 1 f fd ["self", "own"] (spF_asked_from CF) := by
  refine F.ok scField_asked_from (fun vs H Q E h => ?_) (fun cdv A outer s H vs Q E hr h => ?_)
  · obtain ⟨xs, ⟨a, s, f, rk, bs, rfl, _⟩, _⟩ := h
    rfl
  · obtain ⟨xs, ⟨a, own, fl, rk, bs, rfl, ⟨A, hL⟩, ok, rfl⟩, ret⟩ := h
    refine ⟨_, (pss_cons (ps_if (PW.pt (pw_or (pt_cmpR op_eq (pv 1) (pgi T.NO_VALUE) (nomark _)) (pw_or1 (pt_cmpR op_eq (plen K T.len (pfld K (pv 0))) pe_int (nomark _)))))
        (pss_one (ps_ret (pe_lc (own := [("value", 2)]) (g := (gName 2)) (by rfl) scField_asked_from.nd (pi_range1 (by rfl) T.range (pa_cons (plen K T.len (pfld K (pv 0))) pa_nil)) (blkOk_by (own := [("value", 2)]) (N := ["self", "own", "value"]) (sc := defScope sField_asked_from) (by decide +kernel)) (fun _ _ _ _ _ => (pg_name (i := 2) scField_asked_from.nd rfl (Or.inl rfl))) (fun _ _ _ _ _ => (pts_one (pt_cmpR op_ne (pv 2) (pv 1) (nomark _)))) (fun _ _ _ _ _ => (pv 2)))))
        pss_nil)
      (pss_one (ps_ret (pe_lc (own := [("value", 2)]) (g := (gName 2)) (by rfl) scField_asked_from.nd (pi_range1 (by rfl) T.range (pa_cons (plen K T.len (pfld K (pv 0))) pa_nil)) (blkOk_by (own := [("value", 2)]) (N := ["self", "own", "value"]) (sc := defScope sField_asked_from) (by decide +kernel)) (fun _ _ _ _ _ => (pg_name (i := 2) scField_asked_from.nd rfl (Or.inl rfl))) (fun _ _ _ _ _ => (pts_one (pinD K (by exact hu65 hr) (pe_tup (pa_cons (pv 1) (pa_cons (pv 2) pa_nil))) (pfld K (pv 0))))) (fun _ _ _ _ _ => (pv 2)))))), ?_⟩
    have hn : ∀ {σ : L2.St} {H1 : Hp}, Ex H H1 → σ[0]? = some (some (.ref a)) → EvA (tCons (tCB (rLenS K) (tCons (tFld K (tVar 0) "names") tNil)) tNil) σ H1 [.int (fl.values.length : Int)] :=
      fun e h0 => ea_one (ev_lenE (ev_fld (ev_var h0) (e _ _ hL.o) T.cF T.nNames fF_names) (e _ _ hL.n) (vstrs_len _))
    have fin : ∀ (test : Nat → Bool) (H2 : Hp), Ex H H2 → ((List.range fl.values.length).filter test = Vbenaf.askedOf fl own) →
        RetL (given fl.values.length test fun i => .int (i : Int)) H2 Q := fun test H2 e2 ht p H3 n e3 hp => by
      refine ret p H3 (fresh_back e2 n) (e2.trans e3) ?_
      rw [hp, ← ht]
      rfl
    have h8 := ok.v8
    have el : ((vrefs A.ps).length : Int) = (fl.lets.length : Int) := by rw [vrefs_len, hL.p.len]
    refine q_if (b := decide (vI own = -1) || decide ((fl.lets.length : Int) = 0)) (et_or (et_test (ev_is (ev_op (ev_var rfl) ev_c (rv_eq rfl)) (by simp))) fun _ => et_test (ev_is (ev_op (ev_lenE (ev_fld (ev_var rfl) hL.o T.cF T.nLets fF_lets) hL.l el) ev_c (rv_eq rfl)) (by simp))) (fun hb H2 e2 => ?_) fun hb H2 e2 => ?_
    · refine s_retL (el_lcR1 (n := (fl.values.length : Int)) (fun i => !decide ((i : Int) = vI own)) (fun i => .int (i : Int)) (hn e2 rfl) (by omega) (fun x => rfl) (fun i H3 e3 hi => et_test (ev_is (ev_op (ev_var rfl) (ev_var rfl) (rv_ne rfl)) (by simp))) fun i H3 e3 hi _ => ev_var rfl) (fin _ _ e2 ?_)
      exact NM.asked_all hb
    · refine s_retL (el_lcR1 (n := (fl.values.length : Int)) (fun i => fl.lets.any fun l => decide (((l.1 : Int), (l.2 : Int)) = (vI own, (i : Int)))) (fun i => .int (i : Int)) (hn e2 rfl) (by omega) (fun x => rfl) (fun i H3 e3 hi => et_test (ev_opU1 (eu_tup (ea_two (ev_var rfl) (ev_var rfl)) (by simp)) (ev_fld (ev_var rfl) ((e2.trans e3) _ _ hL.o) T.cF T.nLets fF_lets) fun p H4 hp e4 => rv_inP ((e2.trans (e3.trans e4)) _ _ hL.l) (hL.p.ex (e2.trans (e3.trans e4))) hp)) fun i H3 e3 hi _ => ev_var rfl) (fin _ _ e2 ?_)
      exact NM.asked_some ok hb
-- def asked(self, state):
--     return self.asked_from(self.table[state])
-- slots 0:self 1:state
abbrev sField_asked : Stmt := inClass (top 15) 4
theorem scField_asked : FnScope ["self", "state"] ["self", "state"] (defScope sField_asked) := ⟨rfl, rfl, rfl, by decide +kernel, rfl, by decide +kernel, by decide +kernel⟩
def spAsked (CF : Addr) : Sp := pL fun vs H xs => ∃ (a : Addr) (s : Nat) (f : Fld) (rk : List Int) (bs : List (List Int)), vs = [.ref a, .int s] ∧ FldW CF H a f rk bs ∧ FBk f ∧ s < Vbenaf.states f ∧ xs = vnats (Vbenaf.asked f s)
theorem ok_asked {f : Addr} {fd : FuncData} (F : Fun K "asked" "Field.asked" sField_asked f fd) (T : Txt K mg CF) (m_Field_asked_from : Met P w K mg base CX0 1 CF "asked_from" (spF_asked_from CF)) : FnOk P w K mg base CX0 2 f fd ["self", "state"] (spAsked CF) := by
  refine F.ok scField_asked (fun vs H Q E h => ?_) (fun cdv A outer s H vs Q E hr h => ?_)
  · obtain ⟨xs, ⟨a, s, f, rk, bs, rfl, _⟩, _⟩ := h
    rfl
  · obtain ⟨xs, ⟨a, st, fl, rk, bs, rfl, hF, ok, hs, rfl⟩, ret⟩ := h
    obtain ⟨A, hL⟩ := id hF
    refine ⟨_, (pss_one (ps_ret (pmt m_Field_asked_from hr (by decide) (pv 0) (pa_cons (pix K (pfld K (pv 0)) (pv 1)) pa_nil)))), ?_⟩
    refine s_retL (el_mth (ev_var rfl) hL.o (fF_no (by decide +kernel)) (ea_one (v_ix (fl := fl) (ev_fld (ev_var rfl) hL.o T.cF T.nTable fF_table) hL.t (ev_var rfl) ok hs)) (pL.sp fun H1 e1 => ⟨a, Vbenaf.valueOf fl st, fl, rk, bs, rfl, hF.ex e1, ok, rfl⟩)) fun p H1 n e1 hp => ret p H1 n e1 hp
end
end N
set_option Elab.async false
set_option linter.all false
set_option maxRecDepth 100000
set_option maxHeartbeats 4000000
namespace N
open PySem PySem.Spec PyProof.Rows L2 Evl
open NM (vI rI FBk)
section
variable {P : Program} {w : World} {K : PySem.W.Frag} {mg : Str → Option Value} {base : Heap} {CF : Addr}
-- def state_count(self):
--     return len(self.table)
-- slots 0:self
abbrev sField_state_count : Stmt := inClass (top 15) 2
theorem scField_state_count : FnScope ["self"] ["self"] (defScope sField_state_count) := ⟨rfl, rfl, rfl, by decide +kernel, rfl, by decide +kernel, by decide +kernel⟩
def spF_state_count (CF : Addr) : Sp := pV fun vs H v => ∃ (a : Addr) (f : Fld) (rk : List Int) (bs : List (List Int)), vs = [.ref a] ∧ FldW CF H a f rk bs ∧ FBk f ∧ v = .int (Vbenaf.states f : Int)
theorem okF_state_count {f : Addr} {fd : FuncData} (F : Fun K "state_count" "Field.state_count" sField_state_count f fd) (T : Txt K mg CF) : FnOk P w K mg base CX0 1 f fd ["self"] (spF_state_count CF) := by
  refine F.ok scField_state_count (fun vs H Q E h => ?_) (fun cdv A outer s H vs Q E hr h => ?_)
  · obtain ⟨v, ⟨a, f, rk, bs, rfl, _⟩, _⟩ := h
    rfl
  · obtain ⟨v, ⟨a, fl, rk, bs, rfl, ⟨A, hL⟩, ok, rfl⟩, ret⟩ := h
    refine ⟨_, (pss_one (ps_ret (plen K T.len (pfld K (pv 0))))), ?_⟩
    exact s_ret (ev_lenE (ev_fld (ev_var rfl) hL.o T.cF T.nTable fF_table) hL.t (by rw [List.length_map, ok.tl])) fun H1 e1 => ret H1 e1
-- def valued_count(self):
--     return len([value for value in self.table if value != NO_VALUE])
-- slots 0:self 1:value
abbrev sField_valued_count : Stmt := inClass (top 15) 3
theorem scField_valued_count : FnScope ["self", "value"] ["self"] (defScope sField_valued_count) := ⟨rfl, rfl, rfl, by decide +kernel, rfl, by decide +kernel, by decide +kernel⟩
def spF_valued_count (CF : Addr) : Sp := pV fun vs H v => ∃ (a : Addr) (f : Fld) (rk : List Int) (bs : List (List Int)), vs = [.ref a] ∧ FldW CF H a f rk bs ∧ FBk f ∧ v = .int ((f.table.filter fun x => x.isSome).length : Int)
theorem okF_valued_count {f : Addr} {fd : FuncData} (F : Fun K "valued_count" "Field.valued_count" sField_valued_count f fd) (T : Txt K mg CF) : FnOk P w K mg base CX0 1 f fd ["self"] (spF_valued_count CF) := by
  refine F.ok scField_valued_count (fun vs H Q E h => ?_) (fun cdv A outer s H vs Q E hr h => ?_)
  · obtain ⟨v, ⟨a, f, rk, bs, rfl, _⟩, _⟩ := h
    rfl
  · obtain ⟨v, ⟨a, fl, rk, bs, rfl, ⟨A, hL⟩, ok, rfl⟩, ret⟩ := h
    refine ⟨_, (pss_one (ps_ret (plen K T.len (pe_lc (own := [("value", 1)]) (g := (gName 1)) (by rfl) scField_valued_count.nd (piList K (pfld K (pv 0))) (blkOk_by (own := [("value", 1)]) (N := ["self", "value"]) (sc := defScope sField_valued_count) (by decide +kernel)) (fun _ _ _ _ _ => (pg_name (i := 1) scField_valued_count.nd rfl (Or.inl rfl))) (fun _ _ _ _ _ => (pts_one (pt_cmpR op_ne (pv 1) (pgi T.NO_VALUE) (nomark _)))) (fun _ _ _ _ _ => (pv 1)))))), ?_⟩
    have n64 := ok.n64
    refine s_ret (v := .int ((fl.table.filter fun x => x.isSome).length : Int)) (ev_lenNE (el_lcLm (g := fun o => !decide (vI o = -1)) (v := fun o => .int (vI o)) (ev_fld (ev_var rfl) hL.o T.cF T.nTable fF_table) hL.t (by rw [ok.tl]; omega) (fun x => rfl) (fun o H1 e1 _ => et_test (ev_is (ev_op (ev_var rfl) (ev_glob) (rv_ne rfl)) (by simp))) fun o H1 e1 _ _ => ev_var rfl) ?_) fun H1 e1 => ret H1 e1
    rw [List.length_map]
    congr 2
    refine List.filter_congr fun o _ => ?_
    cases o <;> rfl
-- def more_notched(state, count):
--     return [other for other in range(state + 1, count) if other & state == state]
-- slots 0:state 1:count 2:other
abbrev smore_notched : Stmt := top 17
theorem scmore_notched : FnScope ["state", "count", "other"] ["state", "count"] (defScope smore_notched) := ⟨rfl, rfl, rfl, by decide +kernel, rfl, by decide +kernel, by decide +kernel⟩
def sp_more : Sp := pL fun vs H xs => ∃ (s : Nat) (f : Fld), vs = [.int s, .int (Vbenaf.states f : Int)] ∧ Vbenaf.states f ≤ 64 ∧ s < Vbenaf.states f ∧ xs = vnats (NM.more f s)
theorem ok_more {f : Addr} {fd : FuncData} (F : Fun K "more_notched" "more_notched" smore_notched f fd) (T : Txt K mg CF) : FnOk P w K mg base CX0 1 f fd ["state", "count"] sp_more := by
  refine F.ok scmore_notched (fun vs H Q E h => ?_) (fun cdv A outer s H vs Q E hr h => ?_)
  · obtain ⟨v, ⟨st, f, rfl, _⟩, _⟩ := h
    rfl
  · obtain ⟨v, ⟨st, fl, rfl, n64, hs, rfl⟩, ret⟩ := h
    refine ⟨_, (pss_one (ps_ret (pe_lc (own := [("other", 2)]) (g := (gName 2)) (by rfl) scmore_notched.nd (pi_range2 (by rfl) T.range (pa_cons (pe_op op_add (pv 0) pe_int) (pa_cons (pv 1) pa_nil))) (blkOk_by (own := [("other", 2)]) (N := ["state", "count", "other"]) (sc := defScope smore_notched) (by decide +kernel)) (fun _ _ _ _ _ => (pg_name (i := 2) scmore_notched.nd rfl (Or.inl rfl))) (fun _ _ _ _ _ => (pts_one (pt_cmpR op_eq (pe_op op_and (pv 2) (pv 0)) (pv 0) (nomark _)))) (fun _ _ _ _ _ => (pv 2))))), ?_⟩
    have ea : EvA (tCons (tOp (rI0 fun i j => .int (i + j)) (tVar 0) (tC (.int 1))) (tCons (tVar 1) tNil)) (L2.start ["state", "count", "other"] [.int (st : Int), .int (Vbenaf.states fl : Int)]) H [.int ((st + 1 : Nat) : Int), .int ((Vbenaf.states fl : Nat) : Int)] :=
      ea_two (ev_is (ev_op (ev_var rfl) ev_c rv_I0) (by simp)) (ev_var rfl)
    refine s_retL (el_lcR2m (lo := st + 1) (hi := Vbenaf.states fl) (g := fun t => decide (t &&& st = st)) (v := fun t => .int (t : Int)) ea (by omega) (by omega) (fun x => rfl) (fun t H1 e1 _ _ => et_test (ev_is (ev_op (ev_op (ev_var rfl) (ev_var rfl) rv_I0) (ev_var rfl) (rv_eq rfl)) ?_)) fun t H1 e1 _ _ _ => ev_var rfl) ?_
    · rw [NM.bitAnd_nat]
      exact NM.bl_int_eq _ _
    · intro p H1 n e1 hp
      refine ret p H1 n e1 ?_
      rw [hp, NM.more_from fl hs]
      rfl
/-- the states above a state, read off -/
theorem ab_ix {σ : L2.St} {H : Hp} {ta tb : TE} {C a : Addr} {A : FAd} {f : Fld} {rk : List Int} {bs : List (List Int)} {s : Nat} (hL : FldL C H a A f rk bs) (ha : Ev ta σ H (.ref A.la)) (hb : Ev tb σ H (.int (s : Int))) (hs : s < Vbenaf.states f) : ∃ q, H q = some (.lst (vnats (NM.more f s))) ∧ Ev (tOp (rIxL K) ta tb) σ H (.ref q) := by
  obtain ⟨q, h1, h2⟩ := r_ix (K := K) ha hL.a hL.w hb (NM.abAll_get hs)
  rw [vints_nI] at h1
  exact ⟨q, h1, h2⟩
-- def ways(self, state, value):
--     return [other for other in self.above[state] if self.table[other] == value]
-- slots 0:self 1:state 2:value 3:other
abbrev sField_ways : Stmt := inClass (top 15) 6
theorem scField_ways : FnScope ["self", "state", "value", "other"] ["self", "state", "value"] (defScope sField_ways) := ⟨rfl, rfl, rfl, by decide +kernel, rfl, by decide +kernel, by decide +kernel⟩
def spF_ways (CF : Addr) : Sp := pL fun vs H xs => ∃ (a : Addr) (s w : Nat) (f : Fld) (rk : List Int) (bs : List (List Int)), vs = [.ref a, .int s, .int w] ∧ FldW CF H a f rk bs ∧ FBk f ∧ s < Vbenaf.states f ∧ xs = vnats (Vbenaf.ways f s w)
theorem okF_ways {f : Addr} {fd : FuncData} (F : Fun K "ways" "Field.ways" sField_ways f fd) (T : Txt K mg CF) : FnOk P w K mg base CX0 1 f fd ["self", "state", "value"] (spF_ways CF) := by
  refine F.ok scField_ways (fun vs H Q E h => ?_) (fun cdv A outer s H vs Q E hr h => ?_)
  · obtain ⟨v, ⟨a, st, wv, f, rk, bs, rfl, _⟩, _⟩ := h
    rfl
  · obtain ⟨v, ⟨a, st, wv, fl, rk, bs, rfl, hF, ok, hs, rfl⟩, ret⟩ := h
    obtain ⟨A, hL⟩ := id hF
    refine ⟨_, (pss_one (ps_ret (pe_lc (own := [("other", 3)]) (g := (gName 3)) (by rfl) scField_ways.nd (piList K (pix K (pfld K (pv 0)) (pv 1))) (blkOk_by (own := [("other", 3)]) (N := ["self", "state", "value", "other"]) (sc := defScope sField_ways) (by decide +kernel)) (fun _ _ _ _ _ => (pg_name (i := 3) scField_ways.nd rfl (Or.inl rfl))) (fun _ _ _ _ _ => (pts_one (pt_cmpR op_eq (pix K (pfld K (pv 0)) (pv 3)) (pv 2) (nomark _)))) (fun _ _ _ _ _ => (pv 3))))), ?_⟩
    have n64 := ok.n64
    have hm : (NM.more fl st).length ≤ 40000 := by
      have z := NM.more_len fl st
      omega
    obtain ⟨q, hq, hev⟩ := ab_ix (K := K) (ta := tFld K (tVar 0) "above") (tb := tVar 1) (σ := wipe (L2.start ["self", "state", "value", "other"] [.ref a, .int (st : Int), .int (wv : Int)]) [3]) hL (ev_fld (ev_var rfl) hL.o T.cF T.nAbove fF_above) (ev_var rfl) hs
    refine s_retL (el_lcLm (α := Nat) (c := fun t => .int (t : Int)) (g := fun t => decide (Vbenaf.valueOf fl t = some wv)) (v := fun t => .int (t : Int)) hev hq hm (fun x => rfl) (fun t H1 e1 ht => et_test (ev_is (ev_op (v_ix (fl := fl) (ev_fld (ev_var rfl) (e1 _ _ hL.o) T.cF T.nTable fF_table) (e1 _ _ hL.t) (ev_var rfl) ok (NM.mem_more hs ht).2) (ev_var rfl) (rv_eq rfl)) ?_)) fun t H1 e1 _ _ => ev_var rfl) ?_
    · exact NM.bl_vI_eq _ _
    · intro p H1 n e1 hp
      refine ret p H1 n e1 ?_
      have e : ((NM.more fl st).filter fun (t : Nat) => decide (Vbenaf.valueOf fl t = some wv)) = (NM.more fl st).filter fun t => Vbenaf.valueOf fl t == some wv := List.filter_congr fun t _ => by
        rw [Bool.eq_iff_iff, decide_eq_true_eq, beq_iff_eq]
      rw [hp, NM.ways_more, e]
      rfl
end
end N
set_option Elab.async false
set_option linter.all false
set_option maxRecDepth 100000
set_option maxHeartbeats 4000000
namespace N
open PySem PySem.Spec PyProof.Rows L2 Evl
open NM (vI rI FBk)
section
variable {P : Program} {w : World} {K : PySem.W.Frag} {mg : Str → Option Value} {base : Heap} {CF : Addr}
-- def best_ways(self, state):
--     best = [NO_WAY] * len(self.names)
--     for other in self.above[state]:
--         value = self.table[other]
--         if value == NO_VALUE:
--             continue
--         if best[value] == NO_WAY or self.ranks[other] > self.ranks[best[value]]:
--             best[value] = other
--     return best
-- slots 0:self 1:state 2:best 3:other 4:value
abbrev sField_best_ways : Stmt := inClass (top 15) 8
theorem scField_best_ways : FnScope ["self", "state", "best", "other", "value"] ["self", "state"] (defScope sField_best_ways) := ⟨rfl, rfl, rfl, by decide +kernel, rfl, by decide +kernel, by decide +kernel⟩
def spF_best_ways (CF : Addr) : Sp := pL fun vs H xs => ∃ (a : Addr) (s : Nat) (f : Fld) (rk : List Int) (bs : List (List Int)), vs = [.ref a, .int s] ∧ FldW CF H a f rk bs ∧ FBk f ∧ s < Vbenaf.states f ∧ RkFrom f rk s ∧ xs = vints (NM.bestRow f s)
theorem okF_best_ways {f : Addr} {fd : FuncData} (F : Fun K "best_ways" "Field.best_ways" sField_best_ways f fd) (T : Txt K mg CF) : FnOk P w K mg base CX0 1 f fd ["self", "state"] (spF_best_ways CF) := by
  refine F.ok scField_best_ways (fun vs H Q E h => ?_) (fun cdv A outer s H vs Q E hr h => ?_)
  · obtain ⟨v, ⟨a, st, f, rk, bs, rfl, _⟩, _⟩ := h
    rfl
  · obtain ⟨v, ⟨a, st, fl, rk, bs, rfl, hF, ok, hs, hrk, rfl⟩, ret⟩ := h
    obtain ⟨A, hL⟩ := id hF
    refine ⟨_, (pss_cons (ps_set (i := 2) scField_best_ways.nd rfl (Or.inl rfl) (pe_op op_rep (pe_lst (pa_cons (pgi T.NO_WAY) pa_nil)) (plen K T.len (pfld K (pv 0)))))
      (pss_cons (ps_for PassesOwn.never rfl (piList K (pix K (pfld K (pv 0)) (pv 1))) (pg_name (i := 3) scField_best_ways.nd rfl (Or.inl rfl))
        (pss_cons (ps_set (i := 4) scField_best_ways.nd rfl (Or.inl rfl) (pix K (pfld K (pv 0)) (pv 3)))
      (pss_cons (ps_if (pt_cmpR op_eq (pv 4) (pgi T.NO_VALUE) (nomark _))
        (pss_one ps_continue)
        pss_nil)
      (pss_one (ps_if (PW.pt (pw_or (pt_cmpR op_eq (pix K (pv 2) (pv 4)) (pgi T.NO_WAY) (nomark _)) (pw_or1 (pt_cmpR op_gt (pix K (pfld K (pv 0)) (pv 3)) (pix K (pfld K (pv 0)) (pix K (pv 2) (pv 4))) (nomark _)))))
        (pss_one (ps_asg (pv 3) (pg_sub (pv 2) (pv 4) set_list)))
        pss_nil)))))
      (pss_one (ps_ret (pv 2))))), ?_⟩
    have n64 := ok.n64
    have v8 := ok.v8
    refine q_asgL (xs := vints (NM.bl fl [])) (by
      rw [NM.bl_nil, vints, List.map_replicate, ← flat_rep]
      exact el_rep (n := fl.values.length) (el_lst (ea_one (ev_c (v := V.int (-1)))) (by decide)) (fun H1 e1 => ev_lenE (ev_fld (ev_var (i := 0) rfl) (e1 _ _ hL.o) T.cF T.nNames fF_names) (e1 _ _ hL.n) (vstrs_len _)) (by simp; omega) (by omega)) fun b H1 nb e1 hb => ?_
    have hm : ∀ t ∈ NM.more fl st, st < t ∧ t < Vbenaf.states fl := fun t ht => NM.mem_more hs ht
    have sm : ∀ t ∈ NM.more fl st, ∀ n, Vbenaf.rank fl t = some n → n < 1000 := fun t ht => ok.small' (hm t ht).2
    obtain ⟨p, hp, hev⟩ := ab_ix (K := K) (ta := tFld K (tVar 0) "above") (tb := tVar 1) (σ := [some (.ref a), some (.int (st : Int)), some (.ref b), none, none]) hL (ev_fld (ev_var rfl) hL.o T.cF T.nAbove fF_above) (ev_var rfl) hs
    have nbp : b ≠ p := fun z => by
      rw [← z, nb] at hp
      cases hp
    refine q_forLn (xs := vnats (NM.more fl st)) (hev.mono e1) (sq_of (e1 _ _ hp))
      (fun i σ' H' => ∃ v3 v4, σ' = [some (.ref a), some (.int (st : Int)), some (.ref b), v3, v4] ∧ Ex H H' ∧ H' p = some (.lst (vnats (NM.more fl st))) ∧ H' b = some (.lst (vints (NM.bl fl ((NM.more fl st).take i)))) ∧ b ≠ p)
      (fun H2 e2 => ⟨none, none, rfl, e1.trans e2, e2 _ _ (e1 _ _ hp), e2 _ _ hb, nbp⟩) (fun i σ' H' _ ⟨v3, v4, _, _, h1, _⟩ => sq_of h1) ?_ ?_
    · rintro i x σ' H' hi ⟨v3, v4, rfl, e2, hp, hb2, nbp⟩
      rw [vnats, List.getElem?_map] at hi
      cases ht : (NM.more fl st)[i]? with
      | none => rw [ht] at hi; cases hi
      | some t =>
        rw [ht] at hi
        have : x = .int (t : Int) := (Option.some.inj hi).symm
        subst this
        have tm := List.mem_of_getElem? ht
        have tl := hm t tm
        have snoc := NM.take_snoc ht
        refine q_asg (v_ix (fl := fl) (ev_fld (ev_var rfl) (e2 _ _ hL.o) T.cF T.nTable fF_table) (e2 _ _ hL.t) (ev_var rfl) ok tl.2) fun H3 e3 => ?_
        have e23 := e2.trans e3
        have hb3 := e3 _ _ hb2
        cases hv : Vbenaf.valueOf fl t with
        | none =>
          refine q_when (b := true) (et_test (ev_is (ev_op (ev_var rfl) ev_c (rv_eq rfl)) (by simp [vI]))) (fun _ H4 e4 => ?_) (fun h => by cases h)
          refine ⟨_, _, rfl, e23.trans e4, e4 _ _ (e3 _ _ hp), ?_, nbp⟩
          rw [snoc, NM.bl_none hv]
          exact e4 _ _ hb3
        | some wv =>
          have hw := ok.val hv
          obtain ⟨bb, hbb⟩ : ∃ bb, (NM.bl fl ((NM.more fl st).take i))[wv]? = some bb := ⟨_, List.getElem?_eq_getElem (by rw [NM.bl_len]; exact hw)⟩
          have turn := NM.bl_turn (P := (NM.more fl st).take i) (fun u hu => sm u (List.mem_of_mem_take hu)) (sm t tm) hv hw hbb
          refine q_when (b := false) (et_test (ev_is (ev_op (ev_var rfl) ev_c (rv_eq rfl)) (by simp [vI]))) (fun h => by cases h) (fun _ H4 e4 => ?_)
          have hb4 := e4 _ _ hb3
          have e24 := e23.trans e4
          have hbe : ∀ {H5 : Hp}, Ex H4 H5 → Ev (tOp (rIxL K) (tVar 2) (tVar 4)) [some (.ref a), some (.int (st : Int)), some (.ref b), some (.int (t : Int)), some (.int (vI (some wv)))] H5 (.int bb) := fun e5 => i_ix (ev_var rfl) (e5 _ _ hb4) (ev_var rfl) hbb
          refine s_when (b := decide (bb = -1) || decide (rI (Vbenaf.rank fl bb.toNat) < rI (Vbenaf.rank fl t))) (et_or (et_test (ev_is (ev_op (hbe (Ex.refl _)) ev_c (rv_eq rfl)) (by simp))) fun hne => ?_) (fun hc H5 e5 => ?_) (fun hc H5 e5 => ?_)
          · rw [decide_eq_false_iff_not] at hne
            rcases NM.bl_mem hw hbb with z | ⟨u, hu, hum, huv⟩
            · exact absurd z hne
            · subst hu
              have ul := hm u (List.mem_of_mem_take hum)
              exact et_test (ev_op (i_ix (ev_fld (ev_var rfl) (e24 _ _ hL.o) T.cF T.nRanks fF_ranks) (e24 _ _ hL.r) (ev_var rfl) (hrk t tl.1 tl.2 (by rw [hv]; exact fun z => by cases z))) (i_ix (ev_fld (ev_var rfl) (e24 _ _ hL.o) T.cF T.nRanks fF_ranks) (e24 _ _ hL.r) (hbe (Ex.refl _)) (hrk u ul.1 ul.2 (by rw [huv]; exact fun z => by cases z))) rv_I0)
          · refine s_setL (j := wv) (e5 _ _ hb4) (ev_var rfl) (ev_var rfl) (ev_var rfl) (by rw [vints_len, NM.bl_len]; exact hw) fun H6 e6 => ?_
            refine ⟨_, _, rfl, Ex.mut ((e24.trans e5).trans e6) nb, ?_, ?_, nbp⟩
            · rw [upd_ne (Ne.symm nbp)]
              exact e6 _ _ (e5 _ _ (e4 _ _ (e3 _ _ hp)))
            · rw [snoc, turn, if_pos (by simpa using hc), upd_same, vints, vints, List.map_set]
          · refine ⟨_, _, rfl, e24.trans e5, e5 _ _ (e4 _ _ (e3 _ _ hp)), ?_, nbp⟩
            rw [snoc, turn, if_neg (by simpa using hc)]
            exact e5 _ _ hb4
    · rintro σ' H' ⟨v3, v4, rfl, e2, hp, hb2, nbp⟩
      refine s_ret (ev_var rfl) fun H3 e3 => ?_
      have z : (vnats (NM.more fl st)).length = (NM.more fl st).length := vnats_len _
      rw [z, List.take_length, NM.bestRow_bl] at hb2
      exact ret b H3 nb (e2.trans e3) (e3 _ _ hb2)
end
end N
set_option Elab.async false
set_option linter.all false
set_option maxRecDepth 100000
set_option maxHeartbeats 4000000
namespace N
open PySem PySem.Spec PyProof.Rows L2 Evl
open NM (vI rI FBk)
section
variable {P : Program} {w : World} {K : PySem.W.Frag} {mg : Str → Option Value} {base : Heap} {CF : Addr}
-- def left(self, state, value):
--     way = self.best[state][value]
--     if way == NO_WAY:
--         return 0
--     if self.ranks[way] == NO_END:
--         return NO_END
--     return self.ranks[way] + 1
-- slots 0:self 1:state 2:value 3:way
abbrev sField_left : Stmt := inClass (top 15) 9
theorem scField_left : FnScope ["self", "state", "value", "way"] ["self", "state", "value"] (defScope sField_left) := ⟨rfl, rfl, rfl, by decide +kernel, rfl, by decide +kernel, by decide +kernel⟩
def spF_left (CF : Addr) : Sp := pV fun vs H v => ∃ (a : Addr) (s wv : Nat) (f : Fld) (rk : List Int) (bs : List (List Int)), vs = [.ref a, .int s, .int wv] ∧ FldW CF H a f rk bs ∧ FBk f ∧ s < Vbenaf.states f ∧ wv < f.values.length ∧ RkFrom f rk s ∧ bs[s]? = some (NM.bestRow f s) ∧ v = .int (rI (Vbenaf.after f (Vbenaf.rank f) s wv))
theorem okF_left {f : Addr} {fd : FuncData} (F : Fun K "left" "Field.left" sField_left f fd) (T : Txt K mg CF) : FnOk P w K mg base CX0 1 f fd ["self", "state", "value"] (spF_left CF) := by
  refine F.ok scField_left (fun vs H Q E h => ?_) (fun cdv A outer s H vs Q E hr h => ?_)
  · obtain ⟨v, ⟨a, st, wv, f, rk, bs, rfl, _⟩, _⟩ := h
    rfl
  · obtain ⟨v, ⟨a, st, wv, fl, rk, bs, rfl, ⟨A, hL⟩, ok, hs, hw, hrk, hbs, rfl⟩, ret⟩ := h
    refine ⟨_, (pss_cons (ps_set (i := 3) scField_left.nd rfl (Or.inl rfl) (pix K (pix K (pfld K (pv 0)) (pv 1)) (pv 2)))
      (pss_cons (ps_if (pt_cmpR op_eq (pv 3) (pgi T.NO_WAY) (nomark _))
        (pss_one (ps_ret pe_int))
        pss_nil)
      (pss_cons (ps_if (pt_cmpR op_eq (pix K (pfld K (pv 0)) (pv 3)) (pgi T.NO_END) (nomark _))
        (pss_one (ps_ret (pgi T.NO_END)))
        pss_nil)
      (pss_one (ps_ret (pe_op op_add (pix K (pfld K (pv 0)) (pv 3)) pe_int)))))), ?_⟩
    obtain ⟨q, hq, hr1⟩ := r_ix (K := K) (ev_fld (K := K) (ta := tVar 0) (σ := L2.start ["self", "state", "value", "way"] [.ref a, .int (st : Int), .int (wv : Int)]) (ev_var rfl) hL.o T.cF T.nBest fF_best) hL.b hL.q (ev_var (i := 1) rfl) hbs
    refine q_asg (i_ix hr1 hq (ev_var rfl) (NM.bestRow_get hw)) fun H1 e1 => ?_
    rw [NM.after_goTo] at ret
    cases hg : Vbenaf.goTo fl st wv with
    | none =>
      rw [hg] at ret
      exact q_when (b := true) (et_test (ev_is (ev_op (ev_var rfl) ev_c (rv_eq rfl)) (by simp [vI]))) (fun _ H2 e2 => s_ret ev_c fun H3 e3 => ret H3 (e1.trans (e2.trans e3))) (fun h => by cases h)
    | some t =>
      rw [hg] at ret
      dsimp only at ret
      have ht := NM.mem_ways hs (NM.goTo_mem hg)
      have hrt : ∀ {σ : L2.St} {H1 : Hp}, Ex H H1 → σ[0]? = some (some (.ref a)) → σ[3]? = some (some (.int (vI (some t)))) → Ev (tOp (rIxL K) (tFld K (tVar 0) "ranks") (tVar 3)) σ H1 (.int (rI (Vbenaf.rank fl t))) :=
        fun e h0 h3 => i_ix (ev_fld (ev_var h0) (e _ _ hL.o) T.cF T.nRanks fF_ranks) (e _ _ hL.r) (ev_var h3) (hrk t ht.1 ht.2.1 (by rw [ht.2.2]; exact fun z => by cases z))
      have sm := ok.small' ht.2.1
      refine q_when (b := false) (et_test (ev_is (ev_op (ev_var rfl) ev_c (rv_eq rfl)) (by simp [vI]))) (fun h => by cases h) (fun _ H2 e2 => ?_)
      have e12 := e1.trans e2
      cases hrr : Vbenaf.rank fl t with
      | none =>
        rw [hrr] at hrt ret
        exact q_when (b := true) (et_test (ev_is (ev_op (hrt e12 rfl rfl) ev_c (rv_eq rfl)) (by simp [NM.rI]))) (fun _ H3 e3 => s_ret ev_c fun H4 e4 => ret H4 (e12.trans (e3.trans e4))) (fun h => by cases h)
      | some r =>
        rw [hrr] at hrt ret
        have hlt := sm r hrr
        refine q_when (b := false) (et_test (ev_is (ev_op (hrt e12 rfl rfl) ev_c (rv_eq rfl)) (by simp [NM.rI]; omega))) (fun h => by cases h) (fun _ H3 e3 => ?_)
        exact s_ret (ev_op (hrt (e12.trans e3) rfl rfl) ev_c rv_I0) fun H4 e4 => ret H4 (e12.trans (e3.trans e4))
-- def least_left(self, state):
--     least = NO_END
--     for value in self.asked(state):
--         least = min(least, self.left(state, value))
--     return least
-- slots 0:self 1:state 2:least 3:value
abbrev sField_least_left : Stmt := inClass (top 15) 10
theorem scField_least_left : FnScope ["self", "state", "least", "value"] ["self", "state"] (defScope sField_least_left) := ⟨rfl, rfl, rfl, by decide +kernel, rfl, by decide +kernel, by decide +kernel⟩
def spF_least_left (CF : Addr) : Sp := pV fun vs H v => ∃ (a : Addr) (s : Nat) (f : Fld) (rk : List Int) (bs : List (List Int)), vs = [.ref a, .int s] ∧ FldW CF H a f rk bs ∧ FBk f ∧ s < Vbenaf.states f ∧ RkFrom f rk s ∧ bs[s]? = some (NM.bestRow f s) ∧ v = .int (rI (Vbenaf.rank f s))
theorem okF_least_left {f : Addr} {fd : FuncData} (F : Fun K "least_left" "Field.least_left" sField_least_left f fd) (T : Txt K mg CF) (m_Field_asked : Met P w K mg base CX0 2 CF "asked" (spAsked CF)) (m_Field_left : Met P w K mg base CX0 1 CF "left" (spF_left CF)) : FnOk P w K mg base CX0 3 f fd ["self", "state"] (spF_least_left CF) := by
  refine F.ok scField_least_left (fun vs H Q E h => ?_) (fun cdv A outer s H vs Q E hr h => ?_)
  · obtain ⟨v, ⟨a, st, f, rk, bs, rfl, _⟩, _⟩ := h
    rfl
  · obtain ⟨v, ⟨a, st, fl, rk, bs, rfl, hF, ok, hs, hrk, hbs, rfl⟩, ret⟩ := h
    obtain ⟨A, hL⟩ := id hF
    refine ⟨_, (pss_cons (ps_set (i := 2) scField_least_left.nd rfl (Or.inl rfl) (pgi T.NO_END))
      (pss_cons (ps_for PassesOwn.never rfl (piList K (pmt m_Field_asked hr (by decide) (pv 0) (pa_cons (pv 1) pa_nil))) (pg_name (i := 3) scField_least_left.nd rfl (Or.inl rfl))
        (pss_one (ps_set (i := 2) scField_least_left.nd rfl (Or.inl rfl) (pmin T.min (pv 2) (pmt m_Field_left hr (by decide) (pv 0) (pa_cons (pv 1) (pa_cons (pv 3) pa_nil)))))))
      (pss_one (ps_ret (pv 2))))), ?_⟩
    refine q_asg ev_c fun H1 e1 => ?_
    let g := fun w => rI (Vbenaf.after fl (Vbenaf.rank fl) st w)
    let fold := fun (l : List Nat) => (l.map g).foldl (fun a b => if b < a then b else a) 1000
    refine q_forNLn (xs := vnats (Vbenaf.asked fl st)) (el_mth (ev_var rfl) (e1 _ _ hL.o) (fF_no (by decide +kernel)) (ea_one (ev_var rfl)) (pL.sp fun H2 e2 => ⟨a, st, fl, rk, bs, rfl, hF.ex (e1.trans e2), ok, hs, rfl⟩))
      (fun p i σ' H' => ∃ v3, σ' = [some (.ref a), some (.int (st : Int)), some (.int (fold ((Vbenaf.asked fl st).take i))), v3] ∧ Ex H H' ∧ H' p = some (.lst (vnats (Vbenaf.asked fl st))))
      (fun p H2 np e2 hp => ⟨none, rfl, e1.trans e2, hp⟩) (fun p i σ' H' _ ⟨v3, _, _, h1⟩ => sq_of h1) ?_ ?_
    · rintro p i x σ' H' hi ⟨v3, rfl, e2, hp⟩
      rw [vnats, List.getElem?_map] at hi
      cases ht : (Vbenaf.asked fl st)[i]? with
      | none => rw [ht] at hi; cases hi
      | some t =>
        rw [ht] at hi
        have : x = .int (t : Int) := (Option.some.inj hi).symm
        subst this
        have tl := NM.asked_lt (List.mem_of_getElem? ht)
        refine s_asg (ev_min2 (ev_var rfl) (ev_mth (ev_var rfl) (e2 _ _ hL.o) (fF_no (by decide +kernel)) (ea_two (ev_var rfl) (ev_var rfl)) (pV.sp fun H3 e3 => ⟨a, st, t, fl, rk, bs, rfl, hF.ex (e2.trans e3), ok, hs, tl, hrk, hbs, rfl⟩))) fun H3 e3 => ?_
        refine ⟨some (.int (t : Int)), ?_, e2.trans e3, e3 _ _ hp⟩
        have es : fold ((Vbenaf.asked fl st).take (i + 1)) = if g t < fold ((Vbenaf.asked fl st).take i) then g t else fold ((Vbenaf.asked fl st).take i) := by
          show ((((Vbenaf.asked fl st).take (i + 1)).map g).foldl _ 1000) = _
          rw [NM.take_snoc ht, List.map_append, List.map_cons, List.map_nil, NM.fold_snoc]
        rw [es]
        rfl
    · rintro p σ' H' ⟨v3, rfl, e2, hp⟩
      refine s_ret (ev_var rfl) fun H3 e3 => ?_
      have z : (vnats (Vbenaf.asked fl st)).length = (Vbenaf.asked fl st).length := vnats_len _
      rw [z, List.take_length]
      have hl := NM.rank_least ok hs
      have hl2 : rI (Vbenaf.rank fl st) = fold (Vbenaf.asked fl st) := hl
      rw [← hl2]
      exact ret H3 (e2.trans e3)
-- def worst_value(self, state):
--     for value in self.asked(state):
--         if self.left(state, value) == self.ranks[state]:
--             return value
--     return NO_VALUE
-- slots 0:self 1:state 2:value
abbrev sField_worst_value : Stmt := inClass (top 15) 11
theorem scField_worst_value : FnScope ["self", "state", "value"] ["self", "state"] (defScope sField_worst_value) := ⟨rfl, rfl, rfl, by decide +kernel, rfl, by decide +kernel, by decide +kernel⟩
def spF_worst_value (CF : Addr) : Sp := pV fun vs H v => ∃ (a : Addr) (s : Nat) (f : Fld) (rk : List Int) (bs : List (List Int)), vs = [.ref a, .int s] ∧ FldW CF H a f rk bs ∧ FBk f ∧ s < Vbenaf.states f ∧ RkFrom f rk s ∧ rk[s]? = some (rI (Vbenaf.rank f s)) ∧ bs[s]? = some (NM.bestRow f s) ∧ v = .int (vI (Vbenaf.worstAsk f s))
theorem okF_worst_value {f : Addr} {fd : FuncData} (F : Fun K "worst_value" "Field.worst_value" sField_worst_value f fd) (T : Txt K mg CF) (m_Field_asked : Met P w K mg base CX0 2 CF "asked" (spAsked CF)) (m_Field_left : Met P w K mg base CX0 1 CF "left" (spF_left CF)) : FnOk P w K mg base CX0 3 f fd ["self", "state"] (spF_worst_value CF) := by
  refine F.ok scField_worst_value (fun vs H Q E h => ?_) (fun cdv A outer s H vs Q E hr h => ?_)
  · obtain ⟨v, ⟨a, st, f, rk, bs, rfl, _⟩, _⟩ := h
    rfl
  · obtain ⟨v, ⟨a, st, fl, rk, bs, rfl, hF, ok, hs, hrk, hrs, hbs, rfl⟩, ret⟩ := h
    obtain ⟨A, hL⟩ := id hF
    refine ⟨_, (pss_cons (ps_for PassesOwn.never rfl (piList K (pmt m_Field_asked hr (by decide) (pv 0) (pa_cons (pv 1) pa_nil))) (pg_name (i := 2) scField_worst_value.nd rfl (Or.inl rfl))
        (pss_one (ps_if (pt_cmpR op_eq (pmt m_Field_left hr (by decide) (pv 0) (pa_cons (pv 1) (pa_cons (pv 2) pa_nil))) (pix K (pfld K (pv 0)) (pv 1)) (nomark _))
        (pss_one (ps_ret (pv 2)))
        pss_nil)))
      (pss_one (ps_ret (pgi T.NO_VALUE)))), ?_⟩
    let p0 := fun w => Vbenaf.after fl (Vbenaf.rank fl) st w == Vbenaf.rank fl st
    refine q_forNLn (xs := vnats (Vbenaf.asked fl st)) (el_mth (ev_var rfl) hL.o (fF_no (by decide +kernel)) (ea_one (ev_var rfl)) (pL.sp fun H2 e2 => ⟨a, st, fl, rk, bs, rfl, hF.ex e2, ok, hs, rfl⟩))
      (fun p i σ' H' => ∃ v2, σ' = [some (.ref a), some (.int (st : Int)), v2] ∧ Ex H H' ∧ H' p = some (.lst (vnats (Vbenaf.asked fl st))) ∧ ((Vbenaf.asked fl st).take i).find? p0 = none)
      (fun p H2 np e2 hp => ⟨none, rfl, e2, hp, rfl⟩) (fun p i σ' H' _ ⟨v2, _, _, h1, _⟩ => sq_of h1) ?_ ?_
    · rintro p i x σ' H' hi ⟨v2, rfl, e2, hp, hn⟩
      rw [vnats, List.getElem?_map] at hi
      cases ht : (Vbenaf.asked fl st)[i]? with
      | none => rw [ht] at hi; cases hi
      | some t =>
        rw [ht] at hi
        have : x = .int (t : Int) := (Option.some.inj hi).symm
        subst this
        have tl := NM.asked_lt (List.mem_of_getElem? ht)
        have et : EvT (tTest (tOp rEq (tMeth CF "left" (spF_left CF) [] E0 (tVar 0) (tCons (tVar 1) (tCons (tVar 2) tNil))) (tOp (rIxL K) (tFld K (tVar 0) "ranks") (tVar 1)))) [some (.ref a), some (.int (st : Int)), some (.int (t : Int))] H' (p0 t) := by
          refine et_test (ev_is (ev_op (ev_mth (ev_var rfl) (e2 _ _ hL.o) (fF_no (by decide +kernel)) (ea_two (ev_var rfl) (ev_var rfl)) (pV.sp fun H3 e3 => ⟨a, st, t, fl, rk, bs, rfl, hF.ex (e2.trans e3), ok, hs, tl, hrk, hbs, rfl⟩)) (i_ix (ev_fld (ev_var rfl) (e2 _ _ hL.o) T.cF T.nRanks fF_ranks) (e2 _ _ hL.r) (ev_var rfl) hrs) (rv_eq rfl)) ?_)
          show _ = V.bl (Vbenaf.after fl (Vbenaf.rank fl) st t == Vbenaf.rank fl st)
          rw [NM.worst_test ok hs]
          simp
        refine s_when et (fun hc H3 e3 => s_ret (ev_var rfl) fun H4 e4 => ?_) (fun hc H3 e3 => ?_)
        · have hw : Vbenaf.worstAsk fl st = some t := NM.find_of_take rfl hn ht hc
          rw [hw] at ret
          exact ret H4 (e2.trans (e3.trans e4))
        · refine ⟨_, rfl, e2.trans e3, e3 _ _ hp, ?_⟩
          rw [NM.take_snoc ht, NM.find_snoc hn, if_neg (by rw [hc]; decide)]
    · rintro p σ' H' ⟨v2, rfl, e2, hp, hn⟩
      refine s_ret ev_c fun H3 e3 => ?_
      have z : (vnats (Vbenaf.asked fl st)).length = (Vbenaf.asked fl st).length := vnats_len _
      rw [z, List.take_length] at hn
      have hw : Vbenaf.worstAsk fl st = none := hn
      rw [hw] at ret
      exact ret H3 (e2.trans e3)
end
end N
set_option Elab.async false
set_option linter.all false
set_option maxRecDepth 100000
set_option maxHeartbeats 4000000
namespace N
open PySem PySem.Spec PyProof.Rows L2 Evl
open NM (vI FBk)
section
variable {P : Program} {w : World} {K : PySem.W.Frag} {mg : Str → Option Value} {base : Heap} {CF : Addr}
/-- a field that is made -/
structure FldAt (CF : Addr) (H : Hp) (a : Addr) (f : Fld) : Prop where
  ok : FBk f
  fw : FldW CF H a f (NM.rkAll f) (NM.bsAll f)
theorem FldAt.ex {H H' : Hp} {a : Addr} {f : Fld} (h : FldAt CF H a f) (e : Ex H H') : FldAt CF H' a f := ⟨h.ok, h.fw.ex e⟩
theorem rkFrom_all (f : Fld) (s : Nat) : RkFrom f (NM.rkAll f) s := fun t _ h _ => NM.rkAll_get h
-- def worst_row(self, state):
--     row = []
--     value = self.worst_value(state)
--     while value != NO_VALUE:
--         row.append(value)
--         state = self.best[state][value]
--         if state == NO_WAY:
--             break
--         value = self.worst_value(state)
--     return row
-- slots 0:self 1:state 2:row 3:value
abbrev sField_worst_row : Stmt := inClass (top 15) 12
theorem scField_worst_row : FnScope ["self", "state", "row", "value"] ["self", "state"] (defScope sField_worst_row) := ⟨rfl, rfl, rfl, by decide +kernel, rfl, by decide +kernel, by decide +kernel⟩
def spF_worst_row (CF : Addr) : Sp := pL fun vs H xs => ∃ (a : Addr) (s : Nat) (f : Fld), vs = [.ref a, .int s] ∧ FldAt CF H a f ∧ s < Vbenaf.states f ∧ xs = vnats (NM.worst f s)
theorem okF_worst_row {f : Addr} {fd : FuncData} (F : Fun K "worst_row" "Field.worst_row" sField_worst_row f fd) (T : Txt K mg CF) (m_Field_worst_value : Met P w K mg base CX0 3 CF "worst_value" (spF_worst_value CF)) : FnOk P w K mg base CX0 4 f fd ["self", "state"] (spF_worst_row CF) := by
  refine F.ok scField_worst_row (fun vs H Q E h => ?_) (fun cdv A outer s H vs Q E hr h => ?_)
  · obtain ⟨v, ⟨a, st, f, rfl, _⟩, _⟩ := h
    rfl
  · obtain ⟨v, ⟨a, st, fl, rfl, hA, hs, rfl⟩, ret⟩ := h
    have ok := hA.ok
    obtain ⟨A, hL⟩ := id hA.fw
    refine ⟨_, (pss_cons (ps_set (i := 2) scField_worst_row.nd rfl (Or.inl rfl) (pe_lst pa_nil))
      (pss_cons (ps_set (i := 3) scField_worst_row.nd rfl (Or.inl rfl) (pmt m_Field_worst_value hr (by decide) (pv 0) (pa_cons (pv 1) pa_nil)))
      (pss_cons (ps_while PassesOwn.never (pt_cmpR op_ne (pv 3) (pgi T.NO_VALUE) (nomark _))
        (pss_cons (ps_expr (papp K (pv 2) (pv 3)))
      (pss_cons (ps_set (i := 1) scField_worst_row.nd rfl (Or.inl rfl) (pix K (pix K (pfld K (pv 0)) (pv 1)) (pv 3)))
      (pss_cons (ps_if (pt_cmpR op_eq (pv 1) (pgi T.NO_WAY) (nomark _))
        (pss_one ps_break)
        pss_nil)
      (pss_one (ps_set (i := 3) scField_worst_row.nd rfl (Or.inl rfl) (pmt m_Field_worst_value hr (by decide) (pv 0) (pa_cons (pv 1) pa_nil))))))))
      (pss_one (ps_ret (pv 2)))))), ?_⟩
    have n64 := ok.n64
    have wv : ∀ {σ : L2.St} {H1 : Hp} {s : Nat}, Ex H H1 → s < Vbenaf.states fl → σ[0]? = some (some (.ref a)) → σ[1]? = some (some (.int (s : Int))) → Ev (tMeth CF "worst_value" (spF_worst_value CF) [] E0 (tVar 0) (tCons (tVar 1) tNil)) σ H1 (.int (vI (Vbenaf.worstAsk fl s))) :=
      fun {σ H1 s} e hs h0 h1 => ev_mth (ev_var h0) (e _ _ hL.o) (fF_no (by decide +kernel)) (ea_one (ev_var h1)) (pV.sp fun H2 e2 => ⟨a, s, fl, _, _, rfl, hA.fw.ex (e.trans e2), ok, hs, rkFrom_all fl s, NM.rkAll_get hs, NM.bsAll_get hs, rfl⟩)
    refine q_asgL (el_lst ea_nil (by decide)) fun b H1 nb e1 hb => ?_
    refine q_asg (wv e1 hs rfl rfl) fun H2 e2 => ?_
    refine q_while (fun m σ' H' => ∃ (s : Nat) (R : List Nat), σ' = [some (.ref a), some (.int (s : Int)), some (.ref b), some (.int (vI (Vbenaf.worstAsk fl s)))] ∧ s < Vbenaf.states fl ∧ m = Vbenaf.states fl - s ∧ Ex H H' ∧ H' b = some (.lst (vnats R)) ∧ R ++ NM.worst fl s = NM.worst fl st ∧ R.length ≤ s)
      (Vbenaf.states fl - st) ⟨st, [], rfl, hs, rfl, e1.trans e2, e2 _ _ hb, rfl, Nat.zero_le _⟩ ?_
    rintro m σ' H' ⟨s, R, rfl, hs', rfl, e3, hb3, hR, hl⟩
    have fin : ∀ {H4 : Hp} {R : List Nat} {v1 v3}, Ex H H4 → H4 b = some (.lst (vnats R)) → R = NM.worst fl st → tRet (tVar 2) { nx := fun x H' => Q V.non H', rt := Q } [some (.ref a), v1, some (.ref b), v3] H4 := fun {H4 R v1 v3} e4 h4 hR => by
      refine s_ret (ev_var rfl) fun H5 e5 => ?_
      rw [hR] at h4
      exact ret b H5 nb (e4.trans e5) (e5 _ _ h4)
    have eq := NM.worst_eq hs'
    cases hw : Vbenaf.worstAsk fl s with
    | none =>
      rw [hw] at eq
      refine ⟨false, et_test (ev_is (ev_op (ev_var rfl) ev_c (rv_ne rfl)) (by simp [NM.vI])), fun h => (by cases h), fun _ H4 e4 => fin (e3.trans e4) (e4 _ _ hb3) (by rw [← hR, eq, List.append_nil])⟩
    | some wv' =>
      rw [hw] at eq
      dsimp only at eq
      have hwl := NM.worstAsk_lt hw
      refine ⟨true, et_test (ev_is (ev_op (ev_var rfl) ev_c (rv_ne rfl)) (by simp [NM.vI])), fun _ H4 e4 => ?_, fun h => (by cases h)⟩
      refine ⟨fun σ' H' => ∃ (s' : Nat) (R : List Nat), s < s' ∧ σ' = [some (.ref a), some (.int (s' : Int)), some (.ref b), some (.int (vI (Vbenaf.worstAsk fl s')))] ∧ s' < Vbenaf.states fl ∧ Ex H H' ∧ H' b = some (.lst (vnats R)) ∧ R ++ NM.worst fl s' = NM.worst fl st ∧ R.length ≤ s', ?_, ?_⟩
      · rintro σ2 H5 ⟨s', R', h1, h2, h3, h4, h5, h6, h7⟩
        exact ⟨_, by omega, s', R', h2, h3, rfl, h4, h5, h6, h7⟩
      · refine q_app (e4 _ _ hb3) (ev_var rfl) (ev_var rfl) (by rw [vnats_len]; omega) fun H5 e5 => ?_
        have hb6 : (upd H5 b (.lst (vnats R ++ [V.int (vI (some wv'))]))) b = some (.lst (vnats (R ++ [wv']))) := by
          rw [upd_same, vnats, vnats, List.map_append]
          rfl
        have e6 : Ex H (upd H5 b (.lst (vnats R ++ [V.int (vI (some wv'))]))) := Ex.mut (e3.trans (e4.trans e5)) nb
        generalize upd H5 b (.lst (vnats R ++ [V.int (vI (some wv'))])) = H6 at hb6 e6 ⊢
        obtain ⟨q, hq, hr1⟩ := r_ix (K := K) (ev_fld (K := K) (ta := tVar 0) (σ := [some (.ref a), some (.int (s : Int)), some (.ref b), some (.int (vI (some wv')))]) (ev_var rfl) (e6 _ _ hL.o) T.cF T.nBest fF_best) (e6 _ _ hL.b) (hL.q.ex e6) (ev_var (i := 1) rfl) (NM.bsAll_get hs')
        refine q_asg (i_ix hr1 hq (ev_var rfl) (NM.bestRow_get hwl)) fun H7 e7 => ?_
        cases hg : Vbenaf.goTo fl s wv' with
        | none =>
          rw [hg] at eq
          refine q_when (b := true) (et_test (ev_is (ev_op (ev_var rfl) ev_c (rv_eq rfl)) (by simp [NM.vI]))) (fun _ H8 e8 => ?_) (fun h => by cases h)
          exact fin (e6.trans (e7.trans e8)) (e8 _ _ (e7 _ _ hb6)) (by rw [← hR, eq])
        | some t =>
          rw [hg] at eq
          have ht := NM.worst_ge hs' hg
          refine q_when (b := false) (et_test (ev_is (ev_op (ev_var rfl) ev_c (rv_eq rfl)) (by simp [NM.vI]))) (fun h => by cases h) (fun _ H8 e8 => ?_)
          have e68 := e6.trans (e7.trans e8)
          refine s_asg (wv e68 ht.2 rfl rfl) fun H9 e9 => ?_
          exact ⟨t, R ++ [wv'], ht.1, rfl, ht.2, e68.trans e9, e9 _ _ (e8 _ _ (e7 _ _ hb6)), by rw [← hR, eq, List.append_assoc]; rfl, by rw [List.length_append]; simp; omega⟩
-- def behind(self, state, value):
--     if self.table[state] == value:
--         return state
--     if value not in self.asked(state):
--         return NO_WAY
--     return self.best[state][value]
-- slots 0:self 1:state 2:value
abbrev sField_behind : Stmt := inClass (top 15) 13
theorem scField_behind : FnScope ["self", "state", "value"] ["self", "state", "value"] (defScope sField_behind) := ⟨rfl, rfl, rfl, by decide +kernel, rfl, by decide +kernel, by decide +kernel⟩
def spF_behind (CF : Addr) : Sp := pV fun vs H v => ∃ (a : Addr) (s wv : Nat) (f : Fld), vs = [.ref a, .int s, .int wv] ∧ FldAt CF H a f ∧ s < Vbenaf.states f ∧ wv < f.values.length ∧ v = .int (vI (NM.behind f s wv))
theorem okF_behind {f : Addr} {fd : FuncData} (F : Fun K "behind" "Field.behind" sField_behind f fd) (T : Txt K mg CF) (m_Field_asked : Met P w K mg base CX0 2 CF "asked" (spAsked CF)) : FnOk P w K mg base CX0 3 f fd ["self", "state", "value"] (spF_behind CF) := by
  refine F.ok scField_behind (fun vs H Q E h => ?_) (fun cdv A outer s H vs Q E hr h => ?_)
  · obtain ⟨v, ⟨a, st, wv, f, rfl, _⟩, _⟩ := h
    rfl
  · obtain ⟨v, ⟨a, st, wv, fl, rfl, hA, hs, hw, rfl⟩, ret⟩ := h
    have ok := hA.ok
    obtain ⟨A, hL⟩ := id hA.fw
    refine ⟨_, (pss_cons (ps_if (pt_cmpR op_eq (pix K (pfld K (pv 0)) (pv 1)) (pv 2) (nomark _))
        (pss_one (ps_ret (pv 1)))
        pss_nil)
      (pss_cons (ps_if (pnin K (pv 2) (pmt m_Field_asked hr (by decide) (pv 0) (pa_cons (pv 1) pa_nil)))
        (pss_one (ps_ret (pgi T.NO_WAY)))
        pss_nil)
      (pss_one (ps_ret (pix K (pix K (pfld K (pv 0)) (pv 1)) (pv 2)))))), ?_⟩
    refine q_when (b := decide (Vbenaf.valueOf fl st = some wv)) (et_test (ev_is (ev_op (v_ix (fl := fl) (ev_fld (ev_var rfl) hL.o T.cF T.nTable fF_table) hL.t (ev_var rfl) ok hs) (ev_var rfl) (rv_eq rfl)) (NM.bl_vI_eq _ _))) (fun hc H1 e1 => ?_) (fun hc H1 e1 => ?_)
    · rw [decide_eq_true_eq] at hc
      have hb : NM.behind fl st wv = some st := if_pos hc
      rw [hb] at ret
      exact s_ret (ev_var rfl) fun H2 e2 => ret H2 (e1.trans e2)
    · rw [decide_eq_false_iff_not] at hc
      have e0 : inV (.int (wv : Int)) (vnats (Vbenaf.asked fl st)) = (Vbenaf.asked fl st).contains wv := by
        unfold inV vnats
        rw [List.any_map, Bool.eq_iff_iff, List.any_eq_true, List.contains_iff_mem]
        constructor
        · rintro ⟨y, hy, h⟩
          have h : ((y : Int) == (wv : Int)) = true := h
          rw [beq_iff_eq] at h
          have : y = wv := by omega
          rw [← this]
          exact hy
        · exact fun h => ⟨wv, h, by show ((wv : Int) == (wv : Int)) = true; simp⟩
      have hf : (vnats (Vbenaf.asked fl st)).all flatV = true := by
        unfold vnats
        rw [List.all_map, List.all_eq_true]
        exact fun _ _ => rfl
      refine q_when (b := !(Vbenaf.asked fl st).contains wv) (et_test (ev_is (ev_opVL (ev_var (i := 2) rfl) (el_mth (ev_var rfl) (e1 _ _ hL.o) (fF_no (by decide +kernel)) (ea_one (ev_var rfl)) (pL.sp fun H2 e2 => ⟨a, st, fl, _, _, rfl, hA.fw.ex (e1.trans e2), ok, hs, rfl⟩)) fun q H2 hq e2 => rv_niL (sq_of hq) rfl hf) (by rw [e0]))) (fun hn H2 e2 => ?_) (fun hn H2 e2 => ?_)
      · have hn : (Vbenaf.asked fl st).contains wv = false := by simpa using hn
        have hb : NM.behind fl st wv = none := (if_neg hc).trans (if_pos hn)
        rw [hb] at ret
        exact s_ret ev_c fun H3 e3 => ret H3 (e1.trans (e2.trans e3))
      · have hn : ¬ (Vbenaf.asked fl st).contains wv = false := by
          intro z
          rw [z] at hn
          cases hn
        have hb : NM.behind fl st wv = Vbenaf.goTo fl st wv := (if_neg hc).trans (if_neg hn)
        rw [hb] at ret
        have e12 := e1.trans e2
        obtain ⟨q, hq, hr1⟩ := r_ix (K := K) (ev_fld (K := K) (ta := tVar 0) (σ := L2.start ["self", "state", "value"] [.ref a, .int (st : Int), .int (wv : Int)]) (ev_var rfl) (e12 _ _ hL.o) T.cF T.nBest fF_best) (e12 _ _ hL.b) (hL.q.ex e12) (ev_var (i := 1) rfl) (NM.bsAll_get hs)
        exact s_ret (i_ix hr1 hq (ev_var rfl) (NM.bestRow_get hw)) fun H3 e3 => ret H3 (e12.trans e3)
-- def carried(self, state, row):
--     states = []
--     for value in row:
--         state = self.behind(state, value)
--         if state == NO_WAY:
--             break
--         states.append(state)
--     return states
-- slots 0:self 1:state 2:row 3:states 4:value
abbrev sField_carried : Stmt := inClass (top 15) 14
theorem scField_carried : FnScope ["self", "state", "row", "states", "value"] ["self", "state", "row"] (defScope sField_carried) := ⟨rfl, rfl, rfl, by decide +kernel, rfl, by decide +kernel, by decide +kernel⟩
def spF_carried (K : PySem.W.Frag) (CF : Addr) : Sp := pL fun vs H xs => ∃ (a r : Addr) (s : Nat) (row : List Nat) (f : Fld), vs = [.ref a, .int s, .ref r] ∧ FldAt CF H a f ∧ s < Vbenaf.states f ∧ SqL K H r (vnats row) ∧ row.length ≤ 2000 ∧ (∀ x ∈ row, x < f.values.length) ∧ xs = vnats (Vbenaf.carry f s row).1
theorem okF_carried {f : Addr} {fd : FuncData} (F : Fun K "carried" "Field.carried" sField_carried f fd) (T : Txt K mg CF) (m_Field_behind : Met P w K mg base CX0 3 CF "behind" (spF_behind CF)) : FnOk P w K mg base CX0 4 f fd ["self", "state", "row"] (spF_carried K CF) := by
  refine F.ok scField_carried (fun vs H Q E h => ?_) (fun cdv A outer s H vs Q E hr h => ?_)
  · obtain ⟨v, ⟨a, r, st, row, f, rfl, _⟩, _⟩ := h
    rfl
  · obtain ⟨v, ⟨a, r, st, row, fl, rfl, hA, hs, hrow, hrl, hrv, rfl⟩, ret⟩ := h
    have ok := hA.ok
    obtain ⟨A, hL⟩ := id hA.fw
    refine ⟨_, (pss_cons (ps_set (i := 3) scField_carried.nd rfl (Or.inl rfl) (pe_lst pa_nil))
      (pss_cons (ps_for PassesOwn.never rfl (piList K (pv 2)) (pg_name (i := 4) scField_carried.nd rfl (Or.inl rfl))
        (pss_cons (ps_set (i := 1) scField_carried.nd rfl (Or.inl rfl) (pmt m_Field_behind hr (by decide) (pv 0) (pa_cons (pv 1) (pa_cons (pv 4) pa_nil))))
      (pss_cons (ps_if (pt_cmpR op_eq (pv 1) (pgi T.NO_WAY) (nomark _))
        (pss_one ps_break)
        pss_nil)
      (pss_one (ps_expr (papp K (pv 3) (pv 1)))))))
      (pss_one (ps_ret (pv 3))))), ?_⟩
    refine q_asgL (el_lst ea_nil (by decide)) fun b H1 nb e1 hb => ?_
    have fin : ∀ {H4 : Hp} {R : List Nat} {v1 v4}, Ex H H4 → H4 b = some (.lst (vnats R)) → R = (Vbenaf.carry fl st row).1 → tRet (tVar 3) { nx := fun x H' => Q V.non H', rt := Q } [some (.ref a), v1, some (.ref r), some (.ref b), v4] H4 := fun {H4 R v1 v4} e4 h4 hR => by
      refine s_ret (ev_var rfl) fun H5 e5 => ?_
      rw [hR] at h4
      exact ret b H5 nb (e4.trans e5) (e5 _ _ h4)
    refine q_forLn (xs := vnats row) (ev_var rfl) (ex_l e1 hrow) (fun i σ' H' => ∃ (s : Nat) (R : List Nat) (v4 : Option V), σ' = [some (.ref a), some (.int (s : Int)), some (.ref r), some (.ref b), v4] ∧ s < Vbenaf.states fl ∧ Ex H H' ∧ H' b = some (.lst (vnats R)) ∧ R ++ (Vbenaf.carry fl s (row.drop i)).1 = (Vbenaf.carry fl st row).1 ∧ R.length ≤ i)
      (fun H2 e2 => ⟨st, [], none, rfl, hs, e1.trans e2, e2 _ _ hb, rfl, Nat.zero_le _⟩) (fun i σ' H' _ ⟨_, _, _, _, _, e3, _⟩ => ex_l e3 hrow) ?_ ?_
    · rintro i x σ' H' hi ⟨s, R, v4, rfl, hs', e3, hb3, hR, hl⟩
      rw [vnats, List.getElem?_map] at hi
      cases ht : row[i]? with
      | none => rw [ht] at hi; cases hi
      | some t =>
        rw [ht] at hi
        have : x = .int (t : Int) := (Option.some.inj hi).symm
        subst this
        have tl := hrv t (List.mem_of_getElem? ht)
        have il := (List.getElem?_eq_some_iff.mp ht).1
        have ed : row.drop i = t :: row.drop (i + 1) := by
          rw [List.drop_eq_getElem_cons il, (List.getElem?_eq_some_iff.mp ht).2]
        rw [ed, NM.carry_cons] at hR
        refine q_asg (ev_mth (ev_var rfl) (e3 _ _ hL.o) (fF_no (by decide +kernel)) (ea_two (ev_var rfl) (ev_var rfl)) (pV.sp fun H2 e2 => ⟨a, s, t, fl, rfl, hA.ex (e3.trans e2), hs', tl, rfl⟩)) fun H4 e4 => ?_
        cases hb : NM.behind fl s t with
        | none =>
          rw [hb] at hR
          refine q_when (b := true) (et_test (ev_is (ev_op (ev_var rfl) ev_c (rv_eq rfl)) (by simp [NM.vI]))) (fun _ H5 e5 => ?_) (fun h => by cases h)
          exact fin (e3.trans (e4.trans e5)) (e5 _ _ (e4 _ _ hb3)) (by rw [← hR, List.append_nil])
        | some u =>
          rw [hb] at hR
          refine q_when (b := false) (et_test (ev_is (ev_op (ev_var rfl) ev_c (rv_eq rfl)) (by simp [NM.vI]))) (fun h => by cases h) (fun _ H5 e5 => ?_)
          refine s_app (e5 _ _ (e4 _ _ hb3)) (ev_var rfl) (ev_var rfl) (by rw [vnats_len]; omega) fun H6 e6 => ?_
          refine ⟨u, R ++ [u], _, rfl, NM.behind_lt hs' hb, Ex.mut (e3.trans (e4.trans (e5.trans e6))) nb, ?_, by rw [← hR, List.append_assoc]; rfl, by rw [List.length_append]; simp; omega⟩
          rw [upd_same, vnats, vnats, List.map_append]
          rfl
    · rintro σ' H' ⟨s, R, v4, rfl, hs', e3, hb3, hR, hl⟩
      refine fin e3 hb3 ?_
      have z : (vnats row).length = row.length := vnats_len _
      rw [z, List.drop_length, NM.carry_nil, List.append_nil] at hR
      exact hR
-- def before(self, state):
--     own = self.table[state]
--     if own == NO_VALUE:
--         return []
--     return [other for other in range(state) if self.best[other][own] == state]
-- slots 0:self 1:state 2:own 3:other
abbrev sField_before : Stmt := inClass (top 15) 7
theorem scField_before : FnScope ["self", "state", "own", "other"] ["self", "state"] (defScope sField_before) := ⟨rfl, rfl, rfl, by decide +kernel, rfl, by decide +kernel, by decide +kernel⟩
def spF_before (CF : Addr) : Sp := pL fun vs H xs => ∃ (a : Addr) (s : Nat) (f : Fld), vs = [.ref a, .int s] ∧ FldAt CF H a f ∧ s < Vbenaf.states f ∧ xs = vnats (NM.before f s)
theorem okF_before {f : Addr} {fd : FuncData} (F : Fun K "before" "Field.before" sField_before f fd) (T : Txt K mg CF) : FnOk P w K mg base CX0 1 f fd ["self", "state"] (spF_before CF) := by
  refine F.ok scField_before (fun vs H Q E h => ?_) (fun cdv A outer s H vs Q E hr h => ?_)
  · obtain ⟨v, ⟨a, st, f, rfl, _⟩, _⟩ := h
    rfl
  · obtain ⟨v, ⟨a, st, fl, rfl, hA, hs, rfl⟩, ret⟩ := h
    have ok := hA.ok
    obtain ⟨A, hL⟩ := id hA.fw
    have n64 := ok.n64
    refine ⟨_, (pss_cons (ps_set (i := 2) scField_before.nd rfl (Or.inr rfl) (pix K (pfld K (pv 0)) (pv 1)))
      (pss_cons (ps_if (pt_cmpR op_eq (pv 2) (pgi T.NO_VALUE) (nomark _))
        (pss_one (ps_ret (pe_lst pa_nil)))
        pss_nil)
      (pss_one (ps_ret (pe_lc (own := [("other", 3)]) (g := (gName 3)) (by rfl) scField_before.nd (pi_range1 (by rfl) T.range (pa_cons (pv 1) pa_nil)) (blkOk_by (own := [("other", 3)]) (N := ["self", "state", "own", "other"]) (sc := defScope sField_before) (by decide +kernel)) (fun _ _ _ _ _ => (pg_name (i := 3) scField_before.nd rfl (Or.inl rfl))) (fun _ _ _ _ _ => (pts_one (pt_cmpR op_eq (pix K (pix K (pfld K (pv 0)) (pv 3)) (pv 2)) (pv 1) (nomark _)))) (fun _ _ _ _ _ => (pv 3))))))), ?_⟩
    refine q_asg (v_ix (fl := fl) (ev_fld (ev_var rfl) hL.o T.cF T.nTable fF_table) hL.t (ev_var rfl) ok hs) fun H1 e1 => ?_
    cases hv : Vbenaf.valueOf fl st with
    | none =>
      rw [NM.before_none hv] at ret
      refine q_when (b := true) (et_test (ev_is (ev_op (ev_var rfl) ev_c (rv_eq rfl)) (by simp [NM.vI]))) (fun _ H2 e2 => s_retL (el_lst ea_nil (by decide)) fun p H3 n e3 hp => ret p H3 (fresh_back (e1.trans e2) n) ((e1.trans e2).trans e3) hp) (fun h => by cases h)
    | some wv =>
      have hw := ok.val hv
      rw [NM.before_some hs hv] at ret
      refine q_when (b := false) (et_test (ev_is (ev_op (ev_var rfl) ev_c (rv_eq rfl)) (by simp [NM.vI]))) (fun h => by cases h) (fun _ H2 e2 => ?_)
      have e12 := e1.trans e2
      refine s_retL (el_lcR1 (n := (st : Int)) (fun i => decide (Vbenaf.goTo fl i wv = some st)) (fun i => .int (i : Int)) (ea_one (ev_var rfl)) (by omega) (fun x => rfl) (fun i H3 e3 hi => ?_) fun i H3 e3 hi _ => ev_var rfl) fun p H3 n e3 hp => ret p H3 (fresh_back e12 n) (e12.trans e3) (by rw [hp]; rfl)
      have e13 := e12.trans e3
      obtain ⟨q, hq, hr1⟩ := r_ix (K := K) (ev_fld (K := K) (ta := tVar 0) (σ := (wipe [some (.ref a), some (.int (st : Int)), some (.int (vI (some wv))), none] [3]).set 3 (some (.int (i : Int)))) (ev_var rfl) (e13 _ _ hL.o) T.cF T.nBest fF_best) (e13 _ _ hL.b) (hL.q.ex e13) (ev_var (i := 3) rfl) (NM.bsAll_get (s := i) (by omega))
      exact et_test (ev_is (ev_op (i_ix hr1 hq (ev_var rfl) (NM.bestRow_get hw)) (ev_var rfl) (rv_eq rfl)) (NM.bl_vI_eq _ _))
-- def notch_count(state):
--     count = 0
--     while state > 0:
--         count += state & 1
--         state = state >> 1
--     return count
-- slots 0:state 1:count
abbrev snotch_count : Stmt := top 18
theorem scnotch_count : FnScope ["state", "count"] ["state"] (defScope snotch_count) := ⟨rfl, rfl, rfl, by decide +kernel, rfl, by decide +kernel, by decide +kernel⟩
def sp_notch_count : Sp := pV fun vs H v => ∃ s : Nat, vs = [.int s] ∧ s < 64 ∧ v = .int (NM.pc s : Int)
theorem ok_notch_count {f : Addr} {fd : FuncData} (F : Fun K "notch_count" "notch_count" snotch_count f fd) : FnOk P w K mg base CX0 1 f fd ["state"] sp_notch_count := by
  refine F.ok scnotch_count (fun vs H Q E h => ?_) (fun cdv A outer s H vs Q E hr h => ?_)
  · obtain ⟨v, ⟨st, rfl, _⟩, _⟩ := h
    rfl
  · obtain ⟨v, ⟨st, rfl, hs, rfl⟩, ret⟩ := h
    refine ⟨_, (pss_cons (ps_set (i := 1) scnotch_count.nd rfl (Or.inl rfl) pe_int)
      (pss_cons (ps_while PassesOwn.never (pt_cmpR op_gt (pv 0) pe_int (nomark _))
        (pss_cons (ps_aug (i := 1) scnotch_count.nd rfl (Or.inl rfl) (pe_op op_and (pv 0) pe_int) ip_add)
      (pss_one (ps_set (i := 0) scnotch_count.nd rfl (Or.inl rfl) (pe_op op_shr (pv 0) pe_int)))))
      (pss_one (ps_ret (pv 1))))), ?_⟩
    refine q_asg ev_c fun H1 e1 => ?_
    refine q_while (fun m σ' H' => ∃ s c : Nat, σ' = [some (.int (s : Int)), some (.int (c : Int))] ∧ m = s ∧ Ex H H' ∧ c + NM.pc s = NM.pc st) st ⟨st, 0, rfl, rfl, e1, by omega⟩ ?_
    rintro m σ' H' ⟨s, c, rfl, rfl, e2, hc⟩
    refine ⟨decide (0 < m), et_test (ev_is (ev_op (ev_var rfl) ev_c rv_I0) ?_), fun h0 H3 e3 => ?_, fun h0 H3 e3 => ?_⟩
    · show V.bl (decide ((0 : Int) < (m : Int))) = _
      congr 1
      rw [Bool.eq_iff_iff, decide_eq_true_eq, decide_eq_true_eq]
      omega
    · rw [decide_eq_true_eq] at h0
      refine ⟨fun σ' H' => ∃ s c : Nat, σ' = [some (.int (s : Int)), some (.int (c : Int))] ∧ s < m ∧ Ex H H' ∧ c + NM.pc s = NM.pc st, ?_, ?_⟩
      · rintro σ2 H2 ⟨s, c, h1, h2, h3, h4⟩
        exact ⟨s, h2, s, c, h1, rfl, h3, h4⟩
      · refine q_aug (a := (c : Int)) (b := ((m % 2 : Nat) : Int)) rfl (ev_is (ev_op (ev_var rfl) ev_c rv_I0) ?_) fun H4 e4 => ?_
        · rw [show (1 : Int) = ((1 : Nat) : Int) from rfl, NM.bitAnd_nat, Nat.and_one_is_mod]
        · refine s_asg (v := .int ((m / 2 : Nat) : Int)) (ev_is (ev_op (ev_var rfl) ev_c (rv_I (show (0 : Int) ≤ 1 by decide))) ?_) fun H5 e5 => ?_
          · show V.int ((m : Int) / 2 ^ 1) = _
            congr 1
          · refine ⟨m / 2, c + m % 2, ?_, by omega, e2.trans (e3.trans (e4.trans e5)), ?_⟩
            · show [_, _] = [_, _]
              congr 3
            · rw [← hc, NM.pc_pos h0]
              omega
    · rw [decide_eq_false_iff_not] at h0
      have : m = 0 := by omega
      subst this
      rw [NM.pc_zero] at hc
      refine s_ret (ev_var rfl) fun H4 e4 => ?_
      rw [show c = NM.pc st by omega]
      exact ret H4 (e2.trans (e3.trans e4))
end
end N
set_option Elab.async false
set_option linter.all false
set_option maxRecDepth 100000
set_option maxHeartbeats 4000000
namespace N
open PySem PySem.Spec PyProof.Rows L2 Evl
open NM (vI FBk)
section
variable {K : PySem.W.Frag} {σ : L2.St} {H H' : Hp} {ta tb te tl to tv : TE} {t : TT} {x y z v : V} {α : Type} {D : Ends} {tz : TS}
/-- all but what stands at a is as it was -/
def ExB (a : Addr) (H H' : Hp) : Prop := ∀ b o, b ≠ a → H b = some o → H' b = some o
theorem ExB.refl (a : Addr) (H : Hp) : ExB a H H := fun _ _ _ h => h
theorem ExB.trans {a : Addr} {H H1 H2 : Hp} (e : ExB a H H1) (d : ExB a H1 H2) : ExB a H H2 := fun b o n h => d b o n (e b o n h)
theorem ExB.of {a : Addr} {H H1 : Hp} (e : Ex H H1) : ExB a H H1 := fun b o _ h => e b o h
theorem ExB.upd (a : Addr) (H : Hp) (o : HO) : ExB a H (upd H a o) := fun b u n h => by rw [upd_ne n]; exact h
theorem ExB.new {a l : Addr} {H H1 : Hp} (e : ExB a H H1) (o : HO) (hl : H l = none) : ExB a H (L2.upd H1 l o) := fun b u n h => by
  rw [upd_ne (ne_of_none h hl)]
  exact e b u n h
theorem q_fld {a C dx : Addr} {fs : List (Str × V)} {f : Str} (ho : Ev to σ H (.ref a)) (hv : Ev tv σ H v) (ha : H a = some (.ins C dx fs)) (c : Cls K C) (n : NoAttr K C f) (l : fs.length < 1000)
    (k : ∀ H1, Ex H H1 → tz D σ (upd H1 a (.ins C dx (putF f v fs)))) : tSeq (sFld K to tv f) tz D σ H :=
  hv H (Ex.refl _) _ fun H1 e1 => ho H1 e1 _ fun H2 e2 => ⟨a, C, dx, fs, rfl, e2 _ _ (e1 _ _ ha), c, n, l, k H2 (e1.trans e2)⟩
theorem q_fldL {a C dx : Addr} {fs : List (Str × V)} {f : Str} {xs : List V} (ho : Ev to σ H (.ref a)) (hv : EvL tv σ H xs) (ha : H a = some (.ins C dx fs)) (c : Cls K C) (n : NoAttr K C f) (l : fs.length < 1000)
    (k : ∀ p H1, H p = none → Ex H H1 → H1 p = some (.lst xs) → tz D σ (upd H1 a (.ins C dx (putF f (.ref p) fs)))) : tSeq (sFld K to tv f) tz D σ H :=
  hv H (Ex.refl _) _ fun p H1 np e1 hp => ho H1 e1 _ fun H2 e2 => ⟨a, C, dx, fs, rfl, e2 _ _ (e1 _ _ ha), c, n, l, k p H2 np (e1.trans e2) (e2 _ _ hp)⟩
theorem s_fld {a C dx : Addr} {fs : List (Str × V)} {f : Str} (ho : Ev to σ H (.ref a)) (hv : Ev tv σ H v) (ha : H a = some (.ins C dx fs)) (c : Cls K C) (n : NoAttr K C f) (l : fs.length < 1000)
    (k : ∀ H1, Ex H H1 → D.nx σ (upd H1 a (.ins C dx (putF f v fs)))) : sFld K to tv f D σ H :=
  hv H (Ex.refl _) _ fun H1 e1 => ho H1 e1 _ fun H2 e2 => ⟨a, C, dx, fs, rfl, e2 _ _ (e1 _ _ ha), c, n, l, k H2 (e1.trans e2)⟩
theorem s_setLL {l : Addr} {xs ys : List V} {j : Nat} (hl : H l = some (.lst xs)) (h : EvL te σ H ys) (ho : Ev ta σ H (.ref l)) (hi : Ev tb σ H (.int (j : Int))) (hj : j < xs.length)
    (k : ∀ p H1, H p = none → Ex H H1 → H1 p = some (.lst ys) → D.nx σ (upd H1 l (.lst (xs.set j (.ref p))))) : tAsg te (gSub ta tb rSetL) D σ H :=
  h H (Ex.refl _) _ fun p H1 np e1 hp => ho H1 e1 _ fun H2 e2 => hi H2 (e1.trans e2) _ fun H3 e3 => ⟨l, xs, (j : Int), j, rfl, rfl, e3 _ _ (e2 _ _ (e1 _ _ hl)), ixN_nat hj, k p H3 np (e1.trans (e2.trans e3)) (e3 _ _ (e2 _ _ hp))⟩
theorem q_setLL {l : Addr} {xs ys : List V} {j : Nat} (hl : H l = some (.lst xs)) (h : EvL te σ H ys) (ho : Ev ta σ H (.ref l)) (hi : Ev tb σ H (.int (j : Int))) (hj : j < xs.length)
    (k : ∀ p H1, H p = none → Ex H H1 → H1 p = some (.lst ys) → tz D σ (upd H1 l (.lst (xs.set j (.ref p))))) : tSeq (tAsg te (gSub ta tb rSetL)) tz D σ H :=
  h H (Ex.refl _) _ fun p H1 np e1 hp => ho H1 e1 _ fun H2 e2 => hi H2 (e1.trans e2) _ fun H3 e3 => ⟨l, xs, (j : Int), j, rfl, rfl, e3 _ _ (e2 _ _ (e1 _ _ hl)), ixN_nat hj, k p H3 np (e1.trans (e2.trans e3)) (e3 _ _ (e2 _ _ hp))⟩
theorem Rows.snoc {H : Hp} {p : Addr} {l : List Int} (hp : H p = some (.lst (vints l))) : ∀ {as : List Addr} {ls : List (List Int)}, Rows H as ls → Rows H (as ++ [p]) (ls ++ [l])
  | [], [], _ => ⟨hp, trivial⟩
  | _ :: _, _ :: _, h => ⟨h.1, Rows.snoc hp h.2⟩
theorem Rows.upd {H : Hp} {p : Addr} {o : HO} : ∀ {as : List Addr} {ls : List (List Int)}, Rows H as ls → (∀ q ∈ as, q ≠ p) → Rows (L2.upd H p o) as ls
  | [], [], _, _ => trivial
  | a :: _, _ :: _, h, n => ⟨by rw [upd_ne (n a (List.mem_cons_self ..))]; exact h.1, Rows.upd h.2 fun q hq => n q (List.mem_cons_of_mem _ hq)⟩
theorem Rows.set {H : Hp} {p : Addr} {l : List Int} (hp : H p = some (.lst (vints l))) : ∀ {as : List Addr} {ls : List (List Int)} (j : Nat), Rows H as ls → Rows H (as.set j p) (ls.set j l)
  | [], [], _, _ => trivial
  | _ :: _, _ :: _, 0, h => ⟨hp, h.2⟩
  | _ :: _, _ :: _, j + 1, h => ⟨h.1, Rows.set hp j h.2⟩
theorem Tups.upd {H : Hp} {p : Addr} {xs : List V} {o : HO} (hp : H p = some (.lst xs)) : ∀ {as : List Addr} {ls : List (Nat × Nat)}, Tups H as ls → Tups (L2.upd H p o) as ls
  | [], [], _ => trivial
  | _ :: _, _ :: _, h => ⟨by rw [upd_ne (ne_of h.1 hp (by intro z; cases z))]; exact h.1, Tups.upd hp h.2⟩
theorem ExB.none {a l : Addr} {H G : Hp} {u : HO} (e : ExB a H G) (ga : G a = some u) (h : G l = Option.none) : H l = Option.none := by
  cases q : H l with
  | none => rfl
  | some o =>
    by_cases z : l = a
    · rw [z, ga] at h
      cases h
    · rw [e l o z q] at h
      cases h
theorem Tups.exB {H G : Hp} {a C dx : Addr} {fs : List (Str × V)} (ha : H a = some (.ins C dx fs)) (e : ExB a H G) : ∀ {as : List Addr} {ls : List (Nat × Nat)}, Tups H as ls → Tups G as ls
  | [], [], _ => trivial
  | _ :: _, _ :: _, h => ⟨e _ _ (ne_of h.1 ha (by intro z; cases z)) h.1, Tups.exB ha e h.2⟩
theorem s_forDown {ta : TA} {j n : Nat} {tu : TS} (h : EvA ta σ H [.int ((n : Int) - 1), .int (-1), .int (-1)]) (hn : n ≤ 100000) (Pv : Nat → L2.St → Hp → Prop) (h0 : ∀ H1, Ex H H1 → Pv 0 σ H1)
    (hs : ∀ (i : Nat) σ' H', i < n → Pv i σ' H' → tu { D with nx := Pv (i + 1), ct := Pv (i + 1), bk := D.nx } (σ'.set j (some (.int ((n - 1 - i : Nat) : Int)))) H') (hd : ∀ σ' H', Pv n σ' H' → D.nx σ' H') : tFor (iRng3 ta) (gName j) tu D σ H :=
  h H (Ex.refl H) _ fun H1 e => by
    have rg := RgC.neg (i := (n : Int) - 1) (j := -1) (by omega) (by omega) (by omega) (by omega)
    have en : ((n : Int) - 1 - (-1)).toNat = n := by omega
    rw [en] at rg
    exact ⟨(n : Int) - 1, -1, -1, n, rfl, rg, for_rangeC (lo := (n : Int) - 1) (c := -1) (n := n) Pv (h0 H1 e) (fun i σ' H' hi p => by
      have e0 : (n : Int) - 1 + (i : Nat) * (-1) = ((n - 1 - i : Nat) : Int) := by omega
      rw [e0]
      exact hs i σ' H' hi p) hd⟩
theorem putF_fresh {f : Str} {v : V} : ∀ {fs : List (Str × V)}, (fs.map (·.1)).all (fun g => !decide (g = f)) = true → putF f v fs = fs ++ [(f, v)]
  | [], _ => rfl
  | (g, x) :: r, h => by
    rw [List.map_cons, List.all_cons, Bool.and_eq_true] at h
    rw [put_past (by simpa using h.1), putF_fresh h.2]
    rfl
/-- self.f = e in an __init__: a field more -/
theorem q_add {a C dx : Addr} {fs : List (Str × V)} {f : Str} (ns : List Str) (ho : Ev to σ H (.ref a)) (hv : Ev tv σ H v) (ha : H a = some (.ins C dx fs)) (c : Cls K C) (n : NoAttr K C f) (hns : fs.map (·.1) = ns) (hf : ns.all (fun g => !decide (g = f)) = true) (l : ns.length < 1000)
    (k : ∀ G, G a = some (.ins C dx (fs ++ [(f, v)])) → ExB a H G → tz D σ G) : tSeq (sFld K to tv f) tz D σ H := by
  subst hns
  refine q_fld ho hv ha c n (by rw [List.length_map] at l; exact l) fun H1 e1 => k _ ?_ ((ExB.of e1).trans (ExB.upd _ _ _))
  rw [upd_same, putF_fresh hf]
theorem q_addL {a C dx : Addr} {fs : List (Str × V)} {f : Str} {xs : List V} (ns : List Str) (ho : Ev to σ H (.ref a)) (hv : EvL tv σ H xs) (ha : H a = some (.ins C dx fs)) (c : Cls K C) (n : NoAttr K C f) (hns : fs.map (·.1) = ns) (hf : ns.all (fun g => !decide (g = f)) = true) (l : ns.length < 1000)
    (k : ∀ p G, H p = none → G p = some (.lst xs) → G a = some (.ins C dx (fs ++ [(f, .ref p)])) → ExB a H G → tz D σ G) : tSeq (sFld K to tv f) tz D σ H := by
  subst hns
  refine q_fldL ho hv ha c n (by rw [List.length_map] at l; exact l) fun p H1 np e1 hp => k p _ np ?_ ?_ ((ExB.of e1).trans (ExB.upd _ _ _))
  · rw [upd_ne (ne_of hp (e1 _ _ ha) (by intro z; cases z))]
    exact hp
  · rw [upd_same, putF_fresh hf]
/-- a new object, of which P is known -/
def EvN (te : TE) (σ : L2.St) (H : Hp) (P : Addr → Hp → Prop) : Prop := ∀ H1, Ex H H1 → ∀ Q : VK, (∀ p H2, H1 p = none → Ex H1 H2 → P p H2 → Q (.ref p) H2) → te σ H1 Q
theorem q_fldN {a C dx : Addr} {fs : List (Str × V)} {f : Str} {Pn : Addr → Hp → Prop} (ho : ∀ H1, Ex H H1 → ∀ Q : VK, (Q (.ref a) H1) → to σ H1 Q) (hv : EvN tv σ H Pn) (ha : H a = some (.ins C dx fs)) (c : Cls K C) (n : NoAttr K C f) (l : fs.length < 1000)
    (k : ∀ p H1, H p = none → Ex H H1 → Pn p H1 → tz D σ (upd H1 a (.ins C dx (putF f (.ref p) fs)))) : tSeq (sFld K to tv f) tz D σ H :=
  hv H (Ex.refl _) _ fun p H1 np e1 hp => ho H1 e1 _ ⟨a, C, dx, fs, rfl, e1 _ _ ha, c, n, l, k p H1 np e1 hp⟩
theorem q_addN {a C dx : Addr} {fs : List (Str × V)} {f : Str} {Pn : Addr → Hp → Prop} {i : Nat} (ns : List Str) (ho : σ[i]? = some (some (.ref a))) (hv : EvN tv σ H Pn) (ha : H a = some (.ins C dx fs)) (c : Cls K C) (n : NoAttr K C f) (hns : fs.map (·.1) = ns) (hf : ns.all (fun g => !decide (g = f)) = true) (l : ns.length < 1000)
    (k : ∀ p H1, H p = none → Ex H H1 → Pn p H1 → (upd H1 a (.ins C dx (fs ++ [(f, .ref p)]))) a = some (.ins C dx (fs ++ [(f, .ref p)])) → ExB a H (upd H1 a (.ins C dx (fs ++ [(f, .ref p)]))) → tz D σ (upd H1 a (.ins C dx (fs ++ [(f, .ref p)])))) : tSeq (sFld K (tVar i) tv f) tz D σ H := by
  subst hns
  refine hv H (Ex.refl _) _ fun p H1 np e1 hp => ⟨.ref a, ho, a, C, dx, fs, rfl, e1 _ _ ha, c, n, by rw [List.length_map] at l; exact l, ?_⟩
  have z := k p H1 np e1 hp upd_same ((ExB.of e1).trans (ExB.upd _ _ _))
  rw [← putF_fresh hf] at z
  exact z
/-- [[] for x in xs]: a new list of as many new lists -/
theorem en_empties {a : Addr} {xs : List V} {j : Nat} {vs : List Nat} (h : Ev tl σ H (.ref a)) (hx : H a = some (.lst xs)) (hz : xs.length ≤ 40000) (hw : ∀ x, wipe ((wipe σ vs).set j (some x)) vs = wipe σ vs) :
    EvN (tLc (iList K tl) (gName j) tYes (tLst tNil) vs) σ H fun p H2 => ∃ rs : List Addr, rs.length = xs.length ∧ H2 p = some (.lst (vrefs rs)) ∧ Rows H2 rs (List.replicate xs.length []) ∧ ∀ q ∈ rs, H q = none ∧ q ≠ p :=
  fun H0 e Q q => h H0 e _ fun H1 e1 => ⟨a, rfl, ⟨xs, sq_of ((e.trans e1) _ _ hx)⟩, fun Dl hD =>
    lc_list (xs := xs) (fun i H' => ∃ rs : List Addr, rs.length = i ∧ H' Dl = some (.lst (vrefs rs)) ∧ Rows H' rs (List.replicate i []) ∧ (∀ q ∈ rs, H1 q = none ∧ q ≠ Dl) ∧ Ex H1 H')
      (by
        refine ⟨[], rfl, upd_same, ?_, ?_, Ex.new hD⟩
        · trivial
        · intro q hq
          cases hq)
      (fun i H' _ ⟨rs, _, _, _, _, e2⟩ => sq_of (e2 _ _ ((e.trans e1) _ _ hx)))
      (fun i x H' hi ⟨rs, hl, hd, hr, hq, e2⟩ => ⟨hw x, by
        have il := (List.getElem?_eq_some_iff.mp hi).1
        unfold tYes; dsimp only
        refine iteT ?_
        refine ⟨Nat.zero_le _, fun p np => ⟨vrefs rs, ?_, sz_lt (by rw [vrefs_len]; omega), rs ++ [p], by simp [hl], ?_, ?_, ?_, ?_⟩⟩
        · rw [upd_ne (ne_of_none hd np)]
          exact hd
        · rw [upd_same, vrefs, vrefs, List.map_append]
          rfl
        · have hpD : p ≠ Dl := fun z => by rw [z, hd] at np; cases np
          rw [List.replicate_succ']
          refine Rows.snoc ?_ (Rows.upd (Rows.ex (Ex.new np) hr) fun z hz => (hq z hz).2)
          rw [upd_ne hpD]
          exact upd_same
        · intro z hz
          rcases List.mem_append.mp hz with hz | hz
          · exact hq z hz
          · rw [List.mem_singleton] at hz
            subst hz
            exact ⟨fresh_back e2 np, fun z => by rw [z, hd] at np; cases np⟩
        · exact Ex.mut (e2.trans (Ex.new np)) hD⟩)
      (fun H' ⟨rs, hl, hd, hr, hq, e2⟩ => q Dl H' (fresh_back e1 hD) (e1.trans e2) ⟨rs, hl, hd, hr, fun z hz => ⟨fresh_back (e.trans e1) (hq z hz).1, (hq z hz).2⟩⟩)⟩
theorem q_addNG {a C dx : Addr} {fs : List (Str × V)} {f : Str} {Pn : Addr → Hp → Prop} {i : Nat} (ns : List Str) (ho : σ[i]? = some (some (.ref a))) (hv : EvN tv σ H Pn) (ha : H a = some (.ins C dx fs)) (c : Cls K C) (n : NoAttr K C f) (hns : fs.map (·.1) = ns) (hf : ns.all (fun g => !decide (g = f)) = true) (l : ns.length < 1000)
    (k : ∀ p H1 G, H p = none → Ex H H1 → Pn p H1 → (∀ b, b ≠ a → G b = H1 b) → G a = some (.ins C dx (fs ++ [(f, .ref p)])) → ExB a H G → tz D σ G) : tSeq (sFld K (tVar i) tv f) tz D σ H :=
  q_addN ns ho hv ha c n hns hf l fun p H1 np e1 hp g1 g2 => k p H1 _ np e1 hp (fun b hb => upd_ne hb) g1 g2
theorem Rows.same {G G' : Hp} {a : Addr} (e : ∀ b, b ≠ a → G' b = G b) : ∀ {as : List Addr} {ls : List (List Int)}, Rows G as ls → (∀ q ∈ as, q ≠ a) → Rows G' as ls
  | [], [], _, _ => trivial
  | q :: _, _ :: _, h, n => ⟨by rw [e q (n q (List.mem_cons_self ..))]; exact h.1, Rows.same e h.2 fun x hx => n x (List.mem_cons_of_mem _ hx)⟩
/-- [e for i in range(n)]: a new list of as many new lists -/
theorem en_rowsR {ta : TA} {n j : Nat} {vs : List Nat} {ls : Nat → List Int} (h : EvA ta σ H [.int (n : Int)]) (hz : n ≤ 40000) (hw : ∀ x, wipe ((wipe σ vs).set j (some x)) vs = wipe σ vs)
    (he : ∀ (i : Nat) H1, Ex H H1 → i < n → EvL te ((wipe σ vs).set j (some (.int (i : Int)))) H1 (vints (ls i))) :
    EvN (tLc (iRng1 ta) (gName j) tYes te vs) σ H fun p H2 => ∃ rs : List Addr, rs.length = n ∧ H2 p = some (.lst (vrefs rs)) ∧ Rows H2 rs ((List.range n).map ls) ∧ ∀ q ∈ rs, H q = none ∧ q ≠ p :=
  fun H0 e Q q => h H0 e _ fun H1 e1 => ⟨(n : Int), rfl, by omega, by omega, fun Dl hD => by
    have en : ((n : Int)).toNat = n := by omega
    rw [en]
    refine lc_range (lo := 0) (n := n) (fun i H' => ∃ rs : List Addr, rs.length = i ∧ H' Dl = some (.lst (vrefs rs)) ∧ Rows H' rs ((List.range i).map ls) ∧ (∀ q ∈ rs, H1 q = none ∧ q ≠ Dl) ∧ Ex H1 H')
      ⟨[], rfl, upd_same, trivial, ⟨fun q hq => (nomatch hq), Ex.new hD⟩⟩ (fun i H' hi ⟨rs, hl, hd, hr, hq, e2⟩ => ?_)
      (fun H' ⟨rs, hl, hd, hr, hq, e2⟩ => q Dl H' (fresh_back e1 hD) (e1.trans e2) ⟨rs, hl, hd, hr, fun z hz => ⟨fresh_back (e.trans e1) (hq z hz).1, (hq z hz).2⟩⟩)
    have e0 : (0 : Int) + (i : Int) = (i : Int) := Int.zero_add _
    rw [e0]
    refine ⟨hw _, ?_⟩
    unfold tYes; dsimp only
    refine iteT ?_
    refine he i H' ((e.trans e1).trans e2) hi H' (Ex.refl _) _ fun p H4 np e4 hp => ?_
    have hd4 := e4 _ _ hd
    have hpD : p ≠ Dl := fun z => by rw [z, hd] at np; cases np
    refine ⟨vrefs rs, hd4, sz_lt (by rw [vrefs_len]; omega), rs ++ [p], by simp [hl], ?_, ?_, ?_, ?_⟩
    · rw [upd_same, vrefs, vrefs, List.map_append]
      rfl
    · rw [List.range_succ, List.map_append]
      refine Rows.snoc ?_ (Rows.upd (Rows.ex e4 hr) fun z hz => (hq z hz).2)
      rw [upd_ne hpD]
      exact hp
    · intro z hz
      rcases List.mem_append.mp hz with hz | hz
      · exact hq z hz
      · rw [List.mem_singleton] at hz
        subst hz
        exact ⟨fresh_back e2 np, hpD⟩
    · exact Ex.mut (e2.trans e4) hD⟩
/-- all but what stands at these is as it was -/
def ExS (as : List Addr) (H H' : Hp) : Prop := ∀ b o, b ∉ as → H b = some o → H' b = some o
theorem ExS.of {as : List Addr} {H H1 : Hp} (e : Ex H H1) : ExS as H H1 := fun b o _ h => e b o h
theorem ExS.trans {as : List Addr} {H H1 H2 : Hp} (e : ExS as H H1) (d : ExS as H1 H2) : ExS as H H2 := fun b o n h => d b o n (e b o n h)
theorem ExS.upd {as : List Addr} {a : Addr} (H : Hp) (o : HO) (ha : a ∈ as) : ExS as H (L2.upd H a o) := fun b u n h => by
  rw [upd_ne (fun z => n (by rw [z]; exact ha))]
  exact h
theorem ExS.mono {as bs : List Addr} {H H' : Hp} (e : ExS as H H') (s : ∀ x ∈ as, x ∈ bs) : ExS bs H H' := fun b o n h => e b o (fun z => n (s b z)) h
/-- new objects may have changed -/
theorem ExB.transS {a : Addr} {as : List Addr} {H H1 H2 : Hp} (e : ExB a H H1) (d : ExS as H1 H2) (n : ∀ x ∈ as, H x = Option.none) : ExB a H H2 := fun b o nb h => d b o (fun z => by rw [n b z] at h; cases h) (e b o nb h)
theorem Ex.transS {as : List Addr} {H H1 H2 : Hp} (e : Ex H H1) (d : ExS as H1 H2) (n : ∀ x ∈ as, H x = Option.none) : Ex H H2 := fun b o h => d b o (fun z => by rw [n b z] at h; cases h) (e b o h)
end
end N
set_option Elab.async false
set_option linter.all false
set_option maxRecDepth 100000
set_option maxHeartbeats 4000000
namespace N
open PySem PySem.Spec PyProof.Rows L2 Evl
open NM (vI FBk)
section
variable {P : Program} {w : World} {K : PySem.W.Frag} {mg : Str → Option Value} {base : Heap} {CF : Addr}
/-- where the parts of a field lie: apart -/
structure FDa (A : FAd) : Prop where
  nt : A.ln ≠ A.lt
  nr : A.ln ≠ A.lr
  nb : A.ln ≠ A.lb
  lt : A.ll ≠ A.lt
  lr : A.ll ≠ A.lr
  lb : A.ll ≠ A.lb
  at' : A.la ≠ A.lt
  ar : A.la ≠ A.lr
  ab : A.la ≠ A.lb
  tr : A.lt ≠ A.lr
  tb : A.lt ≠ A.lb
  rb : A.lr ≠ A.lb
  q : ∀ x ∈ A.rs, x ≠ A.lt ∧ x ≠ A.lr ∧ x ≠ A.lb
  w : ∀ x ∈ A.as, x ≠ A.lt ∧ x ≠ A.lr ∧ x ≠ A.lb
theorem FDa.set {A : FAd} {j : Nat} {q : Addr} (d : FDa A) (h : q ≠ A.lt ∧ q ≠ A.lr ∧ q ≠ A.lb) : FDa { A with rs := A.rs.set j q } :=
  ⟨d.nt, d.nr, d.nb, d.lt, d.lr, d.lb, d.at', d.ar, d.ab, d.tr, d.tb, d.rb, fun x hx => (List.mem_or_eq_of_mem_set hx).elim (d.q x) (fun z => by rw [z]; exact h), d.w⟩
theorem FldL.setB {C : Addr} {H : Hp} {a q : Addr} {A : FAd} {f : Fld} {rk : List Int} {bs : List (List Int)} {j : Nat} {l : List Int} (h : FldL C H a A f rk bs) (d : FDa A) (hq : H q = some (.lst (vints l))) (hqb : q ≠ A.lb) :
    FldL C (upd H A.lb (.lst ((vrefs A.rs).set j (.ref q)))) a { A with rs := A.rs.set j q } f rk (bs.set j l) := by
  have na : a ≠ A.lb := ne_of h.o h.b (by intro z; cases z)
  refine ⟨?_, ?_, ?_, Tups.upd h.b h.p, ?_, ?_, Rows.upd h.w fun x hx => (d.w x hx).2.2, ?_, ?_, ?_⟩
  · rw [upd_ne na]; exact h.o
  · rw [upd_ne d.nb]; exact h.n
  · rw [upd_ne d.lb]; exact h.l
  · rw [upd_ne d.tb]; exact h.t
  · rw [upd_ne d.ab]; exact h.a
  · rw [upd_ne d.rb]; exact h.r
  · show upd _ A.lb _ A.lb = _
    rw [upd_same, vrefs, vrefs, List.map_set]
  · refine Rows.set ?_ j (Rows.upd h.q fun x hx => (d.q x hx).2.2)
    rw [upd_ne hqb]; exact hq
theorem FldL.setR {C : Addr} {H : Hp} {a : Addr} {A : FAd} {f : Fld} {rk : List Int} {bs : List (List Int)} {j : Nat} {i : Int} (h : FldL C H a A f rk bs) (d : FDa A) :
    FldL C (upd H A.lr (.lst ((vints rk).set j (.int i)))) a A f (rk.set j i) bs := by
  have na : a ≠ A.lr := ne_of h.o h.r (by intro z; cases z)
  refine ⟨?_, ?_, ?_, Tups.upd h.r h.p, ?_, ?_, Rows.upd h.w fun x hx => (d.w x hx).2.1, ?_, ?_, ?_⟩
  · rw [upd_ne na]; exact h.o
  · rw [upd_ne d.nr]; exact h.n
  · rw [upd_ne d.lr]; exact h.l
  · rw [upd_ne d.tr]; exact h.t
  · rw [upd_ne d.ar]; exact h.a
  · show upd _ A.lr _ A.lr = _
    rw [upd_same, vints, vints, List.map_set]
  · rw [upd_ne (Ne.symm d.rb)]; exact h.b
  · exact Rows.upd h.q fun x hx => (d.q x hx).2.1
theorem FldL.setT {C : Addr} {H : Hp} {a : Addr} {A : FAd} {f : Fld} {rk : List Int} {bs : List (List Int)} {j : Nat} {v : Option Nat} (h : FldL C H a A f rk bs) (d : FDa A) :
    FldL C (upd H A.lt (.lst ((f.table.map fun v => V.int (vI v)).set j (.int (vI v))))) a A { f with table := f.table.set j v } rk bs := by
  have na : a ≠ A.lt := ne_of h.o h.t (by intro z; cases z)
  refine ⟨?_, ?_, ?_, Tups.upd h.t h.p, ?_, ?_, Rows.upd h.w fun x hx => (d.w x hx).1, ?_, ?_, ?_⟩
  · rw [upd_ne na]; exact h.o
  · rw [upd_ne d.nt]; exact h.n
  · rw [upd_ne d.lt]; exact h.l
  · show upd _ A.lt _ A.lt = _
    rw [upd_same, List.map_set]
  · rw [upd_ne d.at']; exact h.a
  · rw [upd_ne (Ne.symm d.tr)]; exact h.r
  · rw [upd_ne (Ne.symm d.tb)]; exact h.b
  · exact Rows.upd h.q fun x hx => (d.q x hx).1
-- def settle(self, state):
--     self.best[state] = self.best_ways(state)
--     self.ranks[state] = self.least_left(state)
-- slots 0:self 1:state
abbrev sField_settle : Stmt := inClass (top 15) 1
theorem scField_settle : FnScope ["self", "state"] ["self", "state"] (defScope sField_settle) := ⟨rfl, rfl, rfl, by decide +kernel, rfl, by decide +kernel, by decide +kernel⟩
def spF_settle (CF : Addr) : Sp := fun vs H Q _ => ∃ (a : Addr) (s : Nat) (A : FAd) (f : Fld) (rk : List Int) (bs : List (List Int)), vs = [.ref a, .int s] ∧ FldL CF H a A f rk bs ∧ FBk f ∧ FDa A ∧ s < Vbenaf.states f ∧ RkFrom f rk s ∧ s < rk.length ∧ s < bs.length ∧
  ∀ q H', H q = none → ExS [A.lb, A.lr] H H' → FldL CF H' a { A with rs := A.rs.set s q } f (rk.set s (NM.rI (Vbenaf.rank f s))) (bs.set s (NM.bestRow f s)) → FDa { A with rs := A.rs.set s q } → Q .non H'
theorem okF_settle {f : Addr} {fd : FuncData} (F : Fun K "settle" "Field.settle" sField_settle f fd) (T : Txt K mg CF) (m_Field_best_ways : Met P w K mg base CX0 1 CF "best_ways" (spF_best_ways CF)) (m_Field_least_left : Met P w K mg base CX0 3 CF "least_left" (spF_least_left CF)) : FnOk P w K mg base CX0 4 f fd ["self", "state"] (spF_settle CF) := by
  refine F.ok scField_settle (fun vs H Q E h => ?_) (fun cdv A outer s H vs Q E hr h => ?_)
  · obtain ⟨a, st, A, f, rk, bs, rfl, _⟩ := h
    rfl
  · obtain ⟨a, st, A', fl, rk, bs, rfl, hL, ok, d, hs, hrk, hrl, hbl, ret⟩ := h
    refine ⟨_, (pss_cons (ps_asg (pmt m_Field_best_ways hr (by decide) (pv 0) (pa_cons (pv 1) pa_nil)) (pg_sub (pfld K (pv 0)) (pv 1) set_list))
      (pss_one (ps_asg (pmt m_Field_least_left hr (by decide) (pv 0) (pa_cons (pv 1) pa_nil)) (pg_sub (pfld K (pv 0)) (pv 1) set_list)))), ?_⟩
    have hrl2 : st < (vrefs A'.rs).length := by rw [vrefs_len, hL.q.len]; exact hbl
    refine q_setLL (xs := vrefs A'.rs) (j := st) hL.b (el_mth (ev_var rfl) hL.o (fF_no (by decide +kernel)) (ea_one (ev_var rfl)) (pL.sp fun H1 e1 => ⟨a, st, fl, _, _, rfl, ⟨A', hL.ex e1⟩, ok, hs, hrk, rfl⟩)) (ev_fld (ev_var rfl) hL.o T.cF T.nBest fF_best) (ev_var rfl) hrl2 fun q H1 fq e1 hq => ?_
    have qt : q ≠ A'.lt := fun z => by rw [z, hL.t] at fq; cases fq
    have qb : q ≠ A'.lb := fun z => by rw [z, hL.b] at fq; cases fq
    have qr : q ≠ A'.lr := fun z => by rw [z, hL.r] at fq; cases fq
    have hL1 := (hL.ex e1).setB (j := st) d hq qb
    have d1 := d.set (j := st) ⟨qt, qr, qb⟩
    have eb1 : ExS [A'.lb, A'.lr] H (upd H1 A'.lb (.lst ((vrefs A'.rs).set st (.ref q)))) := (ExS.of e1).trans (ExS.upd _ _ (List.mem_cons_self ..))
    generalize upd H1 A'.lb (.lst ((vrefs A'.rs).set st (.ref q))) = G at hL1 eb1 ⊢
    refine s_setL (l := A'.lr) (j := st) hL1.r (ev_mth (ev_var rfl) hL1.o (fF_no (by decide +kernel)) (ea_one (ev_var rfl)) (pV.sp fun H2 e2 => ⟨a, st, fl, _, _, rfl, ⟨_, hL1.ex e2⟩, ok, hs, hrk, by rw [List.getElem?_set_self hbl], rfl⟩)) (ev_fld (ev_var rfl) hL1.o T.cF T.nRanks fF_ranks) (ev_var rfl) (by rw [vints_len]; exact hrl) fun H2 e2 => ?_
    have hL2 := (hL1.ex e2).setR (j := st) (i := NM.rI (Vbenaf.rank fl st)) d1
    exact ret q _ fq (eb1.trans ((ExS.of e2).trans (ExS.upd _ _ (List.mem_cons_of_mem _ (List.mem_cons_self ..))))) hL2 d1
/-- without the lists that stood before -/
def lessL (H G : Hp) : Hp := fun b => match H b with
  | some (.lst _) => none
  | _ => G b
theorem lessL_at {H G : Hp} {b : Addr} (h : ∀ xs, H b ≠ some (.lst xs)) : lessL H G b = G b := by
  unfold lessL
  cases q : H b with
  | none => rfl
  | some o => cases o with
    | lst xs => exact absurd q (h xs)
    | _ => rfl
theorem lessL_get {H G : Hp} {b : Addr} {o : HO} (h : lessL H G b = some o) : (∀ xs, H b ≠ some (.lst xs)) ∧ G b = some o := by
  have n : ∀ xs, H b ≠ some (.lst xs) := fun xs q => by
    unfold lessL at h
    rw [q] at h
    cases h
  exact ⟨n, by rw [lessL_at n] at h; exact h⟩
theorem lessL_sub (H G : Hp) : Ex (lessL H G) G := fun b o h => (lessL_get h).2
theorem lessL_ex {H G G' : Hp} (e : Ex G G') : Ex (lessL H G) (lessL H G') := fun b o h => by
  obtain ⟨n, g⟩ := lessL_get h
  rw [lessL_at n]
  exact e b o g
theorem lessL_old {H H1 G : Hp} (e : Ex H H1) : Ex (lessL H1 G) (lessL H G) := fun b o h => by
  obtain ⟨n, g⟩ := lessL_get h
  rw [lessL_at (fun xs q => n xs (e _ _ q))]
  exact g
/-- its lists are new -/
structure FrA (H : Hp) (A : FAd) : Prop where
  n : H A.ln = none
  l : H A.ll = none
  t : H A.lt = none
  a : H A.la = none
  r : H A.lr = none
  b : H A.lb = none
  q : ∀ x ∈ A.rs, H x = none
  w : ∀ x ∈ A.as, H x = none
theorem FldL.less {C : Addr} {H G : Hp} {a : Addr} {A : FAd} {f : Fld} {rk : List Int} {bs : List (List Int)} (h : FldL C G a A f rk bs) (fr : FrA H A) (ha : ∀ xs, H a ≠ some (.lst xs)) (hp : ∀ p ∈ A.ps, ∀ xs, H p ≠ some (.lst xs)) : FldL C (lessL H G) a A f rk bs := by
  have nn : ∀ {x : Addr}, H x = none → ∀ xs, H x ≠ some (.lst xs) := fun h xs q => by rw [h] at q; cases q
  have kp : ∀ {as : List Addr} {ls : List (Nat × Nat)}, (∀ p ∈ as, ∀ xs, H p ≠ some (.lst xs)) → Tups G as ls → Tups (lessL H G) as ls := by
    intro as
    induction as with
    | nil => intro ls _ h; cases ls with
      | nil => trivial
      | cons _ _ => exact h.elim
    | cons q as ih => intro ls hq h; cases ls with
      | nil => exact h.elim
      | cons l ls => exact ⟨(lessL_at (hq q (List.mem_cons_self ..))).trans h.1, ih (fun p hp => hq p (List.mem_cons_of_mem _ hp)) h.2⟩
  have kr : ∀ {as : List Addr} {ls : List (List Int)}, (∀ p ∈ as, H p = none) → Rows G as ls → Rows (lessL H G) as ls := by
    intro as
    induction as with
    | nil => intro ls _ h; cases ls with
      | nil => trivial
      | cons _ _ => exact h.elim
    | cons q as ih => intro ls hq h; cases ls with
      | nil => exact h.elim
      | cons l ls => exact ⟨(lessL_at (nn (hq q (List.mem_cons_self ..)))).trans h.1, ih (fun p hp => hq p (List.mem_cons_of_mem _ hp)) h.2⟩
  exact ⟨(lessL_at ha).trans h.o, (lessL_at (nn fr.n)).trans h.n, (lessL_at (nn fr.l)).trans h.l, kp hp h.p, (lessL_at (nn fr.t)).trans h.t, (lessL_at (nn fr.a)).trans h.a, kr fr.w h.w, (lessL_at (nn fr.r)).trans h.r, (lessL_at (nn fr.b)).trans h.b, kr fr.q h.q⟩
-- def __init__(self, holes, names, lets, table):
--     self.holes = holes
--     self.names = list(names)
--     self.lets = list(lets)
--     self.table = list(table)
--     self.above = [more_notched(state, len(table)) for state in range(len(table))]
--     self.ranks = [NO_END] * len(table)
--     self.best = [[] for value in table]
--     for state in range(len(table) - 1, -1, -1):
--         self.settle(state)
-- slots 0:self 1:holes 2:names 3:lets 4:table 5:state 6:value
abbrev sField_init : Stmt := inClass (top 15) 0
theorem scField_init : FnScope ["self", "holes", "names", "lets", "table", "state", "value"] ["self", "holes", "names", "lets", "table"] (defScope sField_init) := ⟨rfl, rfl, rfl, by decide +kernel, rfl, by decide +kernel, by decide +kernel⟩
def spF_init (K : PySem.W.Frag) (CF : Addr) : Sp := fun vs H Q _ => ∃ (a dx n0 l0 t0 : Addr) (ps : List Addr) (f : Fld), vs = [.ref a, .int (f.holes : Int), .ref n0, .ref l0, .ref t0] ∧ H a = some (.ins CF dx []) ∧
  H n0 = some (.lst (vstrs f.values)) ∧ H l0 = some (.lst (vrefs ps)) ∧ Tups H ps f.lets ∧ H t0 = some (.lst (f.table.map fun v => V.int (vI v))) ∧ FBk f ∧
  ∀ H' A, ExB a H H' → FldL CF (lessL H H') a A f (NM.rkAll f) (NM.bsAll f) → FDa A → Q .non H'
theorem okF_init {f : Addr} {fd : FuncData} (F : Fun K "__init__" "Field.__init__" sField_init f fd) (T : Txt K mg CF) (c_more_notched : Cal P w K mg base CX0 1 "more_notched" sp_more) (m_Field_settle : Met P w K mg base CX0 4 CF "settle" (spF_settle CF)) : FnOk P w K mg base CX0 5 f fd ["self", "holes", "names", "lets", "table"] (spF_init K CF) := by
  refine F.ok scField_init (fun vs H Q E h => ?_) (fun cdv A outer s H vs Q E hr h => ?_)
  · obtain ⟨a, dx, n0, l0, t0, ps, f, rfl, _⟩ := h
    rfl
  · obtain ⟨a, dx, n0, l0, t0, ps, fl, rfl, ha, hn, hl, hp, ht, ok, ret⟩ := h
    refine ⟨_, (pss_cons (psfld K (pv 0) (pv 1))
      (pss_cons (psfld K (pv 0) (plist K T.list (pv 2)))
      (pss_cons (psfld K (pv 0) (plist K T.list (pv 3)))
      (pss_cons (psfld K (pv 0) (plist K T.list (pv 4)))
      (pss_cons (psfld K (pv 0) (pe_lc (own := [("state", 5)]) (g := (gName 5)) (by rfl) scField_init.nd (pi_range1 (by rfl) T.range (pa_cons (plen K T.len (pv 4)) pa_nil)) (blkOk_by (own := [("state", 5)]) (N := ["self", "holes", "names", "lets", "table", "state", "value"]) (sc := defScope sField_init) (by decide +kernel)) (fun _ _ _ _ _ => (pg_name (i := 5) scField_init.nd rfl (Or.inl rfl))) (fun _ _ _ _ _ => pts_nil) (fun _ _ _ _ _ => (pc c_more_notched hr (by decide) (by rfl) (pa_cons (pv 5) (pa_cons (plen K T.len (pv 4)) pa_nil))))))
      (pss_cons (psfld K (pv 0) (pe_op op_rep (pe_lst (pa_cons (pgi T.NO_END) pa_nil)) (plen K T.len (pv 4))))
      (pss_cons (psfld K (pv 0) (pe_lc (own := [("value", 6)]) (g := (gName 6)) (by rfl) scField_init.nd (piList K (pv 4)) (blkOk_by (own := [("value", 6)]) (N := ["self", "holes", "names", "lets", "table", "state", "value"]) (sc := defScope sField_init) (by decide +kernel)) (fun _ _ _ _ _ => (pg_name (i := 6) scField_init.nd rfl (Or.inl rfl))) (fun _ _ _ _ _ => pts_nil) (fun _ _ _ _ _ => (pe_lst pa_nil))))
      (pss_one (ps_for PassesOwn.never rfl (pi_range3 (by rfl) T.range (pa_cons (pe_op op_sub (plen K T.len (pv 4)) pe_int) (pa_cons (pe_un un_neg pe_int) (pa_cons (pe_un un_neg pe_int) pa_nil)))) (pg_name (i := 5) scField_init.nd rfl (Or.inl rfl))
        (pss_one (ps_expr (pmt m_Field_settle hr (by decide) (pv 0) (pa_cons (pv 5) pa_nil))))))))))))), ?_⟩
    have n64 := ok.n64
    have n2 := ok.n2
    have nn : n0 ≠ a := ne_of hn ha (by intro z; cases z)
    have nl : l0 ≠ a := ne_of hl ha (by intro z; cases z)
    have nt : t0 ≠ a := ne_of ht ha (by intro z; cases z)
    have lk : ∀ {p : Addr} {xs : List V} {H1 : Hp} {fs : List (Str × V)}, H1 p = some (.lst xs) → H1 a = some (.ins CF dx fs) → p ≠ a := fun h1 h2 => ne_of h1 h2 (by intro z; cases z)
    have apart : ∀ {p q : Addr} {xs : List V} {H1 : Hp}, H1 p = some (.lst xs) → H1 q = none → p ≠ q := fun h1 h2 => ne_of_none h1 h2
    -- self.holes = holes
    refine q_add [] (ev_var rfl) (ev_var rfl) ha T.cF T.nHoles rfl (by decide +kernel) (by decide) fun G1 a1 b1 => ?_
    refine q_addL ["holes"] (ev_var rfl) (el_list (ev_var rfl) (sq_of (b1 _ _ nn hn))) a1 T.cF T.nNames rfl (by decide +kernel) (by decide) fun ln G2 fln hln a2 e2 => ?_
    have b2 := b1.trans e2
    refine q_addL ["holes", "names"] (ev_var rfl) (el_list (ev_var rfl) (sq_of (b2 _ _ nl hl))) a2 T.cF T.nLets rfl (by decide +kernel) (by decide) fun ll G3 fll hll a3 e3 => ?_
    have b3 := b2.trans e3
    have hln3 := e3 _ _ (lk hln a2) hln
    refine q_addL ["holes", "names", "lets"] (ev_var rfl) (el_list (ev_var rfl) (sq_of (b3 _ _ nt ht))) a3 T.cF T.nTable rfl (by decide +kernel) (by decide) fun lt G4 flt hlt a4 e4 => ?_
    have b4 := b3.trans e4
    have hln4 := e4 _ _ (lk hln3 a3) hln3
    have hll4 := e4 _ _ (lk hll a3) hll
    have ht4 := b4 _ _ nt ht
    have len4 : ((fl.table.map fun v => V.int (vI v)).length : Int) = (Vbenaf.states fl : Int) := by rw [List.length_map, ok.tl]
    -- self.above
    refine q_addNG ["holes", "names", "lets", "table"] rfl (en_rowsR (n := Vbenaf.states fl) (ls := fun s => NM.nI (NM.more fl s)) (ea_one (ev_lenE (ev_var rfl) ht4 len4)) (by omega) (fun x => rfl) fun i H1 e1 hi => by
      rw [vints_nI]
      exact el_call (ea_two (ev_var rfl) (ev_lenE (ev_var rfl) (e1 _ _ ht4) len4)) (pL.sp fun H2 e2 => ⟨i, fl, rfl, n64, hi, rfl⟩)) a4 T.cF T.nAbove rfl (by decide +kernel) (by decide) fun la Ga Gb fla ea ⟨as, asl, hla0, hasr, hasf⟩ eab a4a b4a => ?_
    have ka := lk hla0 (ea _ _ a4)
    have hla : Gb la = some (.lst (vrefs as)) := by rw [eab _ ka]; exact hla0
    have nas : ∀ q ∈ as, q ≠ a := fun q hq z => by
      have y := (hasf q hq).1
      rw [z, a4] at y
      cases y
    have has5 := Rows.same eab hasr nas
    have b4' := b4.trans b4a
    have hlnb := b4a _ _ (lk hln4 a4) hln4
    have hllb := b4a _ _ (lk hll4 a4) hll4
    have hltb := b4a _ _ (lk hlt a4) hlt
    have htb := b4a _ _ nt ht4
    refine q_addL (xs := vints (NM.rkP fl 0)) ["holes", "names", "lets", "table", "above"] (ev_var rfl) (by
      rw [NM.rkP_zero, vints, List.map_replicate, ← flat_rep]
      exact el_rep (n := Vbenaf.states fl) (el_lst (ea_one (ev_c (v := V.int 1000))) (by decide)) (fun H1 e1 => ev_lenE (ev_var (i := 4) rfl) (e1 _ _ htb) len4) (by simp; omega) (by omega)) a4a T.cF T.nRanks rfl (by decide +kernel) (by decide) fun lr G5 flr hlr a5 e5 => ?_
    have b5 := b4'.trans e5
    have kr : ∀ {as : List Addr} {ls : List (List Int)} {G G' : Hp} {fs : List (Str × V)}, Rows G as ls → G a = some (.ins CF dx fs) → ExB a G G' → Rows G' as ls := by
      intro as
      induction as with
      | nil => intro ls G G' fs h _ _; cases ls with
        | nil => trivial
        | cons _ _ => exact h.elim
      | cons q as ih => intro ls G G' fs h hga e; cases ls with
        | nil => exact h.elim
        | cons l ls => exact ⟨e _ _ (lk h.1 hga) h.1, ih h.2 hga e⟩
    have hla5 := e5 _ _ (lk hla a4a) hla
    have has5b := kr has5 a4a e5
    have hln5 := e5 _ _ (lk hlnb a4a) hlnb
    have hll5 := e5 _ _ (lk hllb a4a) hllb
    have hlt5 := e5 _ _ (lk hltb a4a) hltb
    have ht5 := b5 _ _ nt ht
    refine q_addN ["holes", "names", "lets", "table", "above", "ranks"] rfl (en_empties (ev_var rfl) ht5 (by rw [List.length_map, ok.tl]; omega) (fun x => rfl)) a5 T.cF T.nBest rfl (by decide +kernel) (by decide) fun lb H6 flb e6 ⟨rs, rsl, hlb, hrs, hfr⟩ a6 b56 => ?_
    have kb := lk hlb (e6 _ _ a5)
    -- all is there
    have b6 := b5.trans b56
    have hln6 := b56 _ _ (lk hln5 a5) hln5
    have hll6 := b56 _ _ (lk hll5 a5) hll5
    have hlt6 := b56 _ _ (lk hlt5 a5) hlt5
    have hla6 := b56 _ _ (lk hla5 a5) hla5
    have has6 := kr has5b a5 b56
    have hlr6 := b56 _ _ (lk hlr a5) hlr
    have ht6 := b56 _ _ nt ht5
    rw [List.length_map, ok.tl] at hrs rsl
    have nqa : ∀ q ∈ rs, q ≠ a := fun q hq z => by
      have y := (hfr q hq).1
      rw [z, a5] at y
      cases y
    have hrs6 := fun o => Rows.upd (o := o) hrs nqa
    have hlb6 : ∀ o, (upd H6 a o) lb = some (.lst (vrefs rs)) := fun o => by rw [upd_ne kb]; exact hlb
    have rowAt : ∀ {as : List Addr} {ls : List (List Int)} {G : Hp}, Rows G as ls → ∀ x ∈ as, ∃ l, G x = some (.lst (vints l)) := by
      intro as
      induction as with
      | nil => intro ls G h x hx; cases hx
      | cons q as ih => intro ls G h x hx; cases ls with
        | nil => exact h.elim
        | cons l ls =>
          rcases List.mem_cons.mp hx with rfl | hx
          · exact ⟨l, h.1⟩
          · exact ih h.2 x hx
    have fra : FrA H ⟨dx, ln, ll, lt, la, lr, lb, ps, as, rs⟩ := ⟨b1.none a1 fln, b2.none a2 fll, b3.none a3 flt, b4.none a4 fla, b4'.none a4a flr, b5.none a5 flb, fun x hx => b5.none a5 (hfr x hx).1, fun x hx => b4.none a4 (hasf x hx).1⟩
    have ds : FDa ⟨dx, ln, ll, lt, la, lr, lb, ps, as, rs⟩ := ⟨apart hln3 flt, apart hlnb flr, apart hln5 flb, apart hll flt, apart hllb flr, apart hll5 flb, fun z => (apart hlt fla) (show lt = la from z.symm), apart hla flr, apart hla5 flb, apart hltb flr, apart hlt5 flb, apart hlr flb,
      fun x hx => ⟨fun z => (by have y := (hfr x hx).1; rw [show x = lt from z, hlt5] at y; cases y), fun z => (by have y := (hfr x hx).1; rw [show x = lr from z, hlr] at y; cases y), (hfr x hx).2⟩,
      fun x hx => by
        obtain ⟨l5, hx5⟩ := rowAt has5 x hx
        obtain ⟨l6, hx6⟩ := rowAt has5b x hx
        exact ⟨fun z => (by have y := (hasf x hx).1; rw [show x = lt from z, hlt] at y; cases y), apart hx5 flr, apart hx6 flb⟩⟩
    have flrH : H lr = none := b4'.none a4a flr
    have flbH : H lb = none := b5.none a5 flb
    refine s_forDown (n := Vbenaf.states fl) (ea_cons (ev_is (ev_op (ev_lenE (ev_var rfl) ht6 len4) ev_c rv_I0) rfl) (ea_two (ev_is (ev_un ev_c ru_neg) rfl) (ev_is (ev_un ev_c ru_neg) rfl))) (by omega)
      (fun i σ' H' => ∃ (A' : FAd) (v5 : Option V), σ' = [some (.ref a), some (.int (fl.holes : Int)), some (.ref n0), some (.ref l0), some (.ref t0), v5, none] ∧ FldL CF H' a A' fl (NM.rkP fl i) (NM.bsP fl i) ∧ FDa A' ∧ ExB a H H' ∧ FrA H A' ∧ A'.ps = ps)
      (fun H7 e7 => ⟨⟨dx, ln, ll, lt, la, lr, lb, ps, as, rs⟩, none, rfl, ⟨e7 _ _ a6, e7 _ _ hln6, e7 _ _ hll6, (Tups.exB ha b6 hp).ex e7, e7 _ _ hlt6, e7 _ _ hla6, has6.ex e7, e7 _ _ hlr6, e7 _ _ (hlb6 _), by rw [NM.bsP_zero]; exact (hrs6 _).ex e7⟩, ds, b6.trans (ExB.of e7), fra, rfl⟩) ?_ ?_
    · rintro i σ' H' hi ⟨A', v5, rfl, hL, d, eb, fr, hps⟩
      have hs : Vbenaf.states fl - 1 - i < Vbenaf.states fl := by omega
      generalize hst : Vbenaf.states fl - 1 - i = st at hs ⊢
      have hrk : RkFrom fl (NM.rkP fl i) st := fun t h1 h2 _ => by rw [NM.rkP_get h2, if_pos (by omega)]
      refine ⟨_, rfl, a, A'.dx, _, rfl, hL.o, fF_no (by decide +kernel), _, rfl, ?_⟩
      refine ⟨a, st, A', fl, _, _, rfl, hL, ok, d, hs, hrk, by rw [NM.rkP_len]; exact hs, by rw [NM.bsP_len]; exact hs, fun q H2 fq es hL2 d2 => ?_⟩
      rw [← NM.rkP_set (by omega), ← NM.bsP_set (by omega)] at hL2
      exact ⟨_, _, rfl, hL2, d2, eb.transS es (fun x hx => by
        rcases List.mem_cons.mp hx with rfl | hx
        · exact fr.b
        · rw [List.mem_singleton] at hx
          rw [hx]
          exact fr.r), ⟨fr.n, fr.l, fr.t, fr.a, fr.r, fr.b, fun x hx => (List.mem_or_eq_of_mem_set hx).elim (fr.q x) (fun z => by rw [z]; exact eb.none hL.o fq), fr.w⟩, hps⟩
    · rintro σ' H' ⟨A', v5, rfl, hL, d, eb, fr, hps⟩
      rw [NM.rkP_all, NM.bsP_all] at hL
      have tn : ∀ {as : List Addr} {ls : List (Nat × Nat)}, Tups H as ls → ∀ p ∈ as, ∀ xs, H p ≠ some (.lst xs) := by
        intro as
        induction as with
        | nil => intro ls _ p hp; cases hp
        | cons q as ih => intro ls h p hp xs z; cases ls with
          | nil => exact h.elim
          | cons l ls =>
            rcases List.mem_cons.mp hp with rfl | hp
            · rw [h.1] at z; cases z
            · exact ih h.2 p hp xs z
      exact ret H' A' eb (hL.less fr (fun xs z => by rw [ha] at z; cases z) (by rw [hps]; exact tn hp)) d
end
end N
set_option Elab.async false
set_option linter.all false
set_option maxRecDepth 100000
set_option maxHeartbeats 4000000
/-! Exceptions of the program's own, a row of classes over Exception, each with an __init__ of its own. -/
namespace N
open PySem PySem.Spec PyProof.Rows L2 Evl
abbrev exTail : List Value := [.type "Exception", .type "BaseException", .type "object"]
/-- what the top says of such a class; fI: its __init__ -/
structure ExC (K : PySem.W.Frag) (C fI : Addr) : Prop where
  q : PySem.W.excInitIn K C exTail "Exception.__new__" = true
  ov : PySem.W.excOver K C exTail = true
  hd : PySem.W.hasDictIn K C = true
  sa : PySem.W.findIn K (.ref C) "__setattr__" = some (some (.builtin "object.__setattr__"))
  ga : PySem.W.findIn K (.ref C) "__getattribute__" = some (some (.builtin "BaseException.__getattribute__"))
  gg : PySem.W.findIn K (.ref C) "__getattr__" = some none
  exC : PySem.W.subIn K (.ref C) (.type "BaseException") = some true
  tyC : PySem.W.typeIn K (.ref C) = some (.type "type")
  kC : PySem.W.keepIn K (.ref C) = true
  iC : PySem.W.findIn K (.ref C) "__init__" = some (some (.ref fI))
  tI : PySem.W.typeIn K (.ref fI) = some (.type "function")
  nN : PySem.W.findIn K (.ref C) "number" = some none
  nP : PySem.W.findIn K (.ref C) "place" = some none
section
open PySem.W (Looks)
variable {X : Cx} {pins : List (Addr × Obj)} {σ : L2.St} {H : Hp} {s : Shared} {a C fI dx : Addr} {f : Str} {y : V} {u : Value} {fs : List (Str × V)} {Q : Unit → Shared → Prop} {E : Value → Shared → Prop} {A : Around}
theorem taker_none {K : PySem.W.Frag} {C : Addr} {f : Str} (h : PySem.W.findIn K (.ref C) f = some none) : PySem.W.takerIn K C f = some none := by
  unfold PySem.W.takerIn
  rw [h]
  rfl
/-- into the dict that the exception has -/
theorem ex_into {A' : Around} {R : Fin → Shared → Prop} {h0 : Heap} {g : Array GenState} {d : Drawn} {t : Nat} {os : OsState} {tk : Tok} (I : Inv X pins σ H ⟨h0, g, d, t, os⟩) (ed : H dx = some (exd dx fs)) (hl : fs.length ≤ 900) (ry : RelV y u)
    (h : ∀ h' t', Inv X pins σ (upd H dx (exd dx ((f, y) :: fs))) ⟨h', g, d, t', os⟩ → R (.done (.ret .none)) ⟨h', g, d, t', os⟩) :
    wpAny (model X.prog X.w) A' (Builtin.ObjectAttr.storeInDict dx (.str f tk) f u) R E ⟨h0, g, d, t, os⟩ := by
  obtain ⟨mA, hns, rel⟩ := exd_at I.hok ed
  refine PySem.OEX.store_in_old hns (within_of rel) (by rw [List.length_map]; omega) fun h' t' hn sb => h h' t' ?_
  refine I.write (t' := t') (x := dx) (e := dx) (by rw [ed]; exact True.intro) (.inl rfl) (fun b o hb q => (sb.2 b hb).trans q) ?_ (exd_ok hn (relO_put ry rel))
  obtain ⟨o, _, _, q, _⟩ := hn
  exact ⟨o, q⟩
/-- the first field: the exception's own dict is made -/
theorem ex_first (T : ExC X.K C fI) (I : Inv X pins σ H s) (e : H a = some (exo a C none)) (hno : PySem.W.findIn X.K (.ref C) f = some none) (ry : RelV y u)
    (h : ∀ dx s', H dx = none → dx ≠ a → Inv X pins σ (upd (upd H dx (exd dx [(f, y)])) a (exo a C (some dx))) s' → Q () s') : wpAny (model X.prog X.w) A (setAttr (.ref a) f u) Q E s := by
  obtain ⟨t1, ho⟩ := exo_at I.hok e
  have hcd : ∃ cd, PySem.W.clsIn X.K C = some cd ∧ cd.hasDict = true := PySem.W.any_some T.hd
  obtain ⟨cd, hc, hcd⟩ := hcd
  obtain ⟨hp, g, d, t, os⟩ := s
  have hax : a < hp.objs.size := Heap.lt_size ho
  refine PySem.W.set_plain I.kIn (ox := PySem.W.excObj C t1 none .none) (od := none) ⟨ho, rfl, rfl, trivial⟩ T.sa ?_
  refine PySem.W.osa_openX (od := none) F.store_Exception (I.tok (t + 1)).kIn ⟨ho, rfl, rfl, trivial⟩ T.ov (taker_none hno) fun b => ?_
  refine wpAny_bind (wpAny_pure (wpAny_bind (PySem.W.instanceDict_exc ho (PySem.W.looks_clsIn (I.tok (t + 1)).kIn hc) hcd ?_)))
  -- the heap with the new dict, and with the exception that knows it
  have hn : H hp.objs.size = none := I.hok.fresh (Nat.le_refl _)
  have ne : hp.objs.size ≠ a := Ne.symm (Nat.ne_of_lt hax)
  have g0 : (hp.push (PySem.W.dictOf [] 0)).get? hp.objs.size = some (PySem.W.dictOf [] 0) := by heap_get
  have n0 : (hp.push (PySem.W.dictOf [] 0)).Ns1 hp.objs.size (fun _ => none) :=
    Heap.Ns1.of_empty ⟨_, #[], _, g0, rfl, fun e he => absurd he (by simp), fun _ => rfl⟩
  have I1 : Inv X pins σ (upd H hp.objs.size (exd hp.objs.size [])) ⟨hp.push (PySem.W.dictOf [] 0), g, d, t + 1, os⟩ :=
    I.laid (t' := t + 1) (fun b o q => Heap.get?_push_of_some _ q) (Nat.le_refl _) (exd_ok n0 fun f => trivial)
  have ga := Heap.get?_push_of_some (PySem.W.dictOf [] 0) ho
  have hx := Heap.get?_update_self (fun o : Obj => { o with dict := some hp.objs.size }) ga rfl
  have I2 := I1.write (t' := t + 1) (x := a) (e := a) (o := exo a C (some hp.objs.size)) (h' := (hp.push (PySem.W.dictOf [] 0)).update a fun o => { o with dict := some hp.objs.size })
    (by rw [upd_ne (Ne.symm ne), e]; exact True.intro) (.inl rfl) (fun b o hb q => (Heap.get?_update_ne _ _ _ _ hb).trans q) ⟨_, hx⟩ (exo_ok hx)
  refine ex_into (fs := []) (y := y) I2 (by rw [upd_ne ne]; exact upd_same) (Nat.zero_le _) ry fun h' t' I3 => ?_
  refine h hp.objs.size _ hn ne ?_
  have eq : upd (upd (upd H hp.objs.size (exd hp.objs.size [])) a (exo a C (some hp.objs.size))) hp.objs.size (exd hp.objs.size [(f, y)]) = upd (upd H hp.objs.size (exd hp.objs.size [(f, y)])) a (exo a C (some hp.objs.size)) := by
    funext b
    by_cases hb : b = hp.objs.size
    · subst hb
      rw [upd_same, upd_ne ne, upd_same]
    · rw [upd_ne hb]
      by_cases ha : b = a
      · subst ha
        rw [upd_same, upd_same]
      · rw [upd_ne ha, upd_ne ha, upd_ne hb, upd_ne hb]
  rw [← eq]
  exact I3
/-- a further field -/
theorem ex_next (T : ExC X.K C fI) (I : Inv X pins σ H s) (e : H a = some (exo a C (some dx))) (ed : H dx = some (exd dx fs)) (hl : fs.length ≤ 900) (hno : PySem.W.findIn X.K (.ref C) f = some none) (ry : RelV y u)
    (h : ∀ s', Inv X pins σ (upd H dx (exd dx ((f, y) :: fs))) s' → Q () s') : wpAny (model X.prog X.w) A (setAttr (.ref a) f u) Q E s := by
  obtain ⟨t1, ho⟩ := exo_at I.hok e
  obtain ⟨cd, hc, hcd⟩ := PySem.W.any_some T.hd
  obtain ⟨mA, hns, rel⟩ := exd_at I.hok ed
  obtain ⟨hp, g, d, t, os⟩ := s
  obtain ⟨oD, _, _, hoD, _, _⟩ := hns.count (within_of rel)
  refine PySem.W.set_plain I.kIn (ox := PySem.W.excObj C t1 (some dx) .none) (od := some oD) ⟨ho, rfl, rfl, hoD⟩ T.sa ?_
  refine PySem.W.osa_openX (od := some oD) F.store_Exception (I.tok (t + 1)).kIn ⟨ho, rfl, rfl, hoD⟩ T.ov (taker_none hno) fun b => ?_
  refine wpAny_bind (wpAny_pure (wpAny_bind (wpAny_bind (wpAny_loadPart ho (wpAny_bind ((PySem.W.looks_clsIn (I.tok (t + 1)).kIn hc).here ?_))))))
  rw [hcd]
  refine wpAny_pure (a := some dx) ?_
  exact ex_into (I.tok (t + 1)) ed hl ry fun h' t' I3 => h _ I3
end
/-! ### rules -/
/-- self.f = e, self an exception -/
def tEst (K : PySem.W.Frag) (f : Str) (to te : TE) : TS := fun D σ H => te σ H fun y H1 => to σ H1 fun x H2 => ∃ a C fI : Addr, x = .ref a ∧ ExC K C fI ∧ PySem.W.findIn K (.ref C) f = some none ∧
  ((H2 a = some (exo a C none) ∧ ∀ dx, H2 dx = none → dx ≠ a → D.nx σ (upd (upd H2 dx (exd dx [(f, y)])) a (exo a C (some dx)))) ∨
    ∃ (dx : Addr) (fs : List (Str × V)), H2 a = some (exo a C (some dx)) ∧ H2 dx = some (exd dx fs) ∧ fs.length ≤ 900 ∧ D.nx σ (upd H2 dx (exd dx ((f, y) :: fs))))
section
variable (K : PySem.W.Frag) {X : Cx} {o e : Expr} {es : List Expr} {to te : TE} {ta : TA} {f x : Str} {p p' p1 p2 pos apos : Pos}
theorem psest (ho : PE X o to) (he : PE X e te) (hs : swapsWith e (some (.Attribute o f p')) pos.line X.env = pure false := by rfl) (hK : X.K = K := by rfl) : PS X (.Assign [.Attribute o f p'] e pos) (tEst K f to te) := by
  subst hK
  refine ⟨fun pins s σ H D I h => ?_⟩
  refine plainObj_wpAny_Assign_Attribute (thn (he.run pins s σ H _ I h) fun v s1 ⟨y, H1, I1, r1, q1⟩ => thn (ho.run pins s1 σ H1 _ I1 q1) fun u s2 ⟨x, H2, I2, r2, a, C, fI, ex, T, hno, q⟩ => ?_) hs
  subst ex
  obtain rfl : u = Value.ref a := r2
  rcases q with ⟨ea, q⟩ | ⟨dx, fs, ea, ed, hl, q⟩
  · exact ex_first T I2 ea hno r1 fun dx s' n ne J => ⟨σ, _, J, q dx n ne⟩
  · exact ex_next T I2 ea ed hl hno r1 fun s' J => ⟨σ, _, J, q⟩
/-- a def of a class, read off the class itself: C.m -/
structure ClsFn (K : PySem.W.Frag) (mg : Str → Option Value) (x m : Str) (C f : Addr) : Prop where
  gC : mg x = some (.ref C)
  ga : PySem.W.specialIn K (.ref C) "__getattribute__" = some (some (.builtin "type.__getattribute__"))
  rd : PySem.W.readsIn K C (.type "type") = true
  at_ : PySem.W.findCls K (.ref C) (.type "type") m = some (.val (.ref f))
  kp : PySem.W.keepIn K (.ref f) = true
theorem pclsf {pl : Sem Bool} {m : Str} {C f : Addr} {k j : Nat} {sp : Sp} {fd : FuncData} {ps : List Str} (c : ClsFn X.K X.mg x m C f) (F : FnOk X.prog X.w X.K X.mg X.base CX0 k f fd ps sp) (hb : Binds X.K fd ps []) (hr : Room j X.A) (hk : k ≤ j) (hg : Gl X x) (ha : PA X (e :: es) ta)
    (hdb : (x == ("__debug__" : Str)) = false := by decide)
    (hc : eval (.Call (.Attribute (.Name x p1) m p2) (e :: es) [] pos) X.env = (do
      let ov ← eval (.Name x p1) X.env
      standAt p2.atName
      let (f, first) ← holding [ov] (getMethod ov m pl)
      callWith pos f first (backTo pos (starEach (e :: es) X.env)) (backToKw pos (keywordEach [] X.env))) := by rfl)
    (he : starEach (e :: es) X.env = (false, eval e X.env) :: starEach es X.env := by rfl) (hpl : (backTo pos (starEach es X.env)).any (·.1) = false := by rfl) :
    PE X (.Call (.Attribute (.Name x p1) m p2) (e :: es) [] pos) (tCall sp [] E0 ta) := by
  refine ⟨fun pins s σ H Q I h => ?_⟩
  refine PySem.W.methodCall_KW (pl := pl) (ld_glob I hg c.gC ?_ hdb) hc
  refine PySem.W.method_cls I.kIn c.ga (PySem.W.cls_value I.kIn c.rd c.at_ rfl ?_)
  have I' := I.tok (s.toks + 1)
  refine PySem.W.callWith_K (first := []) (h₀ := X.base) I'.ok.mod.kin c.kp (thn (ha.run pos pins _ σ H _ I' h) fun us s2 ⟨vs, H2, I2, r, q2⟩ => ⟨I2.kIn, ?_⟩) he hpl
  exact run_fn F (hr.mono hk) hb .nil pass0 I2 r q2
end
/-- the class is called: a new exception, then its __init__ -/
theorem run_ex {X : Cx} {pins : List (Addr × Obj)} {σ : L2.St} {H : Hp} {s : Shared} {Q : XK} {C fI : Addr} {k : Nat} {fd : FuncData} {ps : List Str} {sp : Sp} {us : List Value} {vs : List V} (T : ExC X.K C fI) (F1 : FnOk X.prog X.w X.K X.mg X.base CX0 k fI fd ps sp)
    (hr : Room (k + 1) X.A) (hb : Binds X.K fd ps []) (I : Inv X pins σ H s) (r : Vals vs us) (hz : vs.length ≤ 1000)
    (h : ∀ a, H a = none → sp (.ref a :: vs) (upd H a (exo a C none)) (fun v H2 => v = .non ∧ ∃ (d : Addr) (fs : List (Str × V)), H2 a = some (exo a C (some d)) ∧ H2 d = some (exd d fs) ∧ H d = none ∧ Q (.ref C) (some d) (upd (del H2 a) d (.xd fs))) E0) :
    wpAny (model X.prog X.w) X.A (call (.ref C) us) (MkP X pins σ Q) X.xe s := by
  obtain ⟨nm, N', qn, bs, bm, hdct, sn, sub, ab, col, dd, k0, k1, k2, k3, k5, hC, hT⟩ := PySem.W.excInit_of I.kIn T.q
  obtain ⟨hp, g, d, t, os⟩ := s
  have hus : us.length ≤ sizeLine := by
    rw [← Paired.length r, sizeLine_eq]
    omega
  have hbig : hp.objs.size ≤ hp.objs.size + 1 := Nat.le_succ _
  have hn : H (hp.objs.size + 1) = none := I.hok.fresh hbig
  have kk : ∀ b o, hp.get? b = some o → ((hp.push (PySem.W.kdv_tup us)).push (PySem.HandSPX.excO C hp.objs.size)).get? b = some o := fun b o e => Heap.get?_push_of_some _ (Heap.get?_push_of_some _ e)
  have hget : ((hp.push (PySem.W.kdv_tup us)).push (PySem.HandSPX.excO C hp.objs.size)).get? (hp.objs.size + 1) = some (PySem.HandSPX.excO C hp.objs.size) := by heap_get
  have I2 := I.laid (t' := t) (a := hp.objs.size + 1) (o := exo (hp.objs.size + 1) C none) kk hbig (exo_ok hget)
  have hq := h (hp.objs.size + 1) hn
  have r2 : Vals (V.ref (hp.objs.size + 1) :: vs) (Value.ref (hp.objs.size + 1) :: us) := .cons rfl r
  have hl : (Value.ref (hp.objs.size + 1) :: us).length = ps.length := by
    have e := r2.length
    rw [F1.len _ _ _ _ hq] at e
    exact e.symm
  have hbt := hb _ (Value.ref (hp.objs.size + 1) :: us) I2.kIn (by rw [List.append_nil]; exact hl)
  rw [List.append_nil] at hbt
  have run := F1.run _ X.stack _ _ ⟨Value.ref (hp.objs.size + 1) :: us, []⟩ (Value.ref (hp.objs.size + 1) :: us) _ _ E0 (hr.make C us []) (I2.env0.make C us []) hbt r2 hq
  refine wpAny_call (PySem.HandSPX.call_own F.excBase_Exception hT hC (PySem.W.looks_findIn I.kIn T.iC) (fun self => PySem.W.bind_fn I.kIn self T.tI) hus (codeAny_mono run fun res s' hres => ?_))
  cases res with
  | error er => exact hres.elim
  | ok fl =>
    cases fl with
    | ret u =>
      obtain ⟨v, H2, os2, bare2, un2, hok2, rv, ev, dx, fs, ea, ed, hd1, q2⟩ := hres
      subst ev
      obtain ⟨h2, g2, d2, t2, os'⟩ := s'
      exact ⟨rv, mk_end (raises_own T.exC T.tyC) I hbig kk un2 hok2 os2 bare2 ea ed hd1 q2⟩
    | next => exact False.elim hres
    | brk => exact False.elim hres
    | cont => exact False.elim hres
/-- raise C(..): what C's __init__ asks -/
def tEx (C : Addr) (sp : Sp) (ta : TA) : L2.St → Hp → XK → Prop := fun σ H Q => ta σ H fun vs H1 => vs.length ≤ 1000 ∧ ∀ a, H1 a = none → sp (.ref a :: vs) (upd H1 a (exo a C none))
  (fun v H2 => v = .non ∧ ∃ (d : Addr) (fs : List (Str × V)), H2 a = some (exo a C (some d)) ∧ H2 d = some (exd d fs) ∧ H1 d = none ∧ Q (.ref C) (some d) (upd (del H2 a) d (.xd fs))) E0
section
variable {X : Cx} {e : Expr} {es : List Expr} {ta : TA} {x : Str} {p pos : Pos} {C fI : Addr} {k j : Nat} {fd : FuncData} {ps : List Str} {sp : Sp}
theorem pmx (T : ExC X.K C fI) (F1 : FnOk X.prog X.w X.K X.mg X.base CX0 k fI fd ps sp) (hb : Binds X.K fd ps []) (hm : X.mg x = some (.ref C)) (hr : Room j X.A) (hk : k + 1 ≤ j) (hg : Gl X x) (ha : PA X (e :: es) ta)
    (hdb : (x == ("__debug__" : Str)) = false := by decide) (he : starEach (e :: es) X.env = (false, eval e X.env) :: starEach es X.env := by rfl) (hpl : (backTo pos (starEach es X.env)).any (·.1) = false := by rfl) :
    PMk X (.Call (.Name x p) (e :: es) [] pos) (tEx C sp ta) := by
  intro pins s σ H Q I h
  refine wpAny_Call_Name_kw (ld_glob I hg hm ?_ hdb)
  refine PySem.W.callWith_K (first := []) (h₀ := X.base) I.ok.mod.kin T.kC (thn (ha.run pos pins s σ H _ I h) fun us s1 ⟨vs, H1, I1, r1, hz, q1⟩ => ⟨I1.kIn, ?_⟩) he hpl
  exact run_ex T F1 (hr.mono hk) hb I1 r1 hz q1
theorem pmx0 (T : ExC X.K C fI) (F1 : FnOk X.prog X.w X.K X.mg X.base CX0 k fI fd ps sp) (hb : Binds X.K fd ps []) (hm : X.mg x = some (.ref C)) (hr : Room j X.A) (hk : k + 1 ≤ j) (hg : Gl X x)
    (hdb : (x == ("__debug__" : Str)) = false := by decide) : PMk X (.Call (.Name x p) [] [] pos) (tEx C sp tNil) := by
  intro pins s σ H Q I h
  refine wpAny_Call_Name_kw (ld_glob I hg hm ?_ hdb)
  exact PySem.W.callWith_K0 (first := []) I.kIn T.kC (run_ex T F1 (hr.mono hk) hb I .nil (Nat.zero_le _) h.2)
end
/-- an error class that may be raised by its name; sp: its __init__ -/
structure Er (P : Program) (w : World) (K : PySem.W.Frag) (mg : Str → Option Value) (base : Heap) (k : Nat) (x : Str) (C : Addr) (sp : Sp) : Prop where
  ex : ∃ (fI : Addr) (fd : FuncData) (ps : List Str), ExC K C fI ∧ FnOk P w K mg base CX0 k fI fd ps sp ∧ Binds K fd ps [] ∧ mg x = some (.ref C)
section
variable {X : Cx} {e : Expr} {es : List Expr} {ta : TA} {x m : Str} {o : Expr} {to : TE} {t : TA} {p pos pos' apos : Pos} {C : Addr} {k j : Nat} {sp : Sp} {W : WX}
theorem psr (c : Er X.prog X.w X.K X.mg X.base k x C sp) (tk : Takes X W) (hr : Room j X.A) (hk : k + 1 ≤ j) (hg : Gl X x) (ha : PA X (e :: es) ta) (hc : X.calm = true := by rfl)
    (hdb : (x == ("__debug__" : Str)) = false := by decide) (he : starEach (e :: es) X.env = (false, eval e X.env) :: starEach es X.env := by rfl) (hpl : (backTo pos (starEach es X.env)).any (·.1) = false := by rfl) :
    PS X (.Raise (some (.Call (.Name x p) (e :: es) [] pos)) none pos') (fun _ σ H => tEx C sp ta σ H fun cls d H' => W cls d σ H') := by
  obtain ⟨fI, fd, ps, T, F, b, hm⟩ := c.ex
  exact ps_raise hc tk (pmx T F b hm hr hk hg ha hdb he hpl)
theorem psr0 (c : Er X.prog X.w X.K X.mg X.base k x C sp) (tk : Takes X W) (hr : Room j X.A) (hk : k + 1 ≤ j) (hg : Gl X x) (hc : X.calm = true := by rfl)
    (hdb : (x == ("__debug__" : Str)) = false := by decide) :
    PS X (.Raise (some (.Call (.Name x p) [] [] pos)) none pos') (fun _ σ H => tEx C sp tNil σ H fun cls d H' => W cls d σ H') := by
  obtain ⟨fI, fd, ps, T, F, b, hm⟩ := c.ex
  exact ps_raise hc tk (pmx0 T F b hm hr hk hg hdb)
/-! ### calls of defs that may raise -/
theorem pcS (c : Cal X.prog X.w X.K X.mg X.base (L2.CX X.prog X.w) k x sp) (hr : Room j X.A) (hk : k ≤ j) (tk : Takes X W) (hg : Gl X x) (ha : PA X (e :: es) t)
    (hdb : (x == ("__debug__" : Str)) = false := by decide) (he : starEach (e :: es) X.env = (false, eval e X.env) :: starEach es X.env := by rfl) (hpl : (backTo pos (starEach es X.env)).any (·.1) = false := by rfl) :
    PE X (.Call (.Name x p) (e :: es) [] pos) (tCallS sp (WE W) t) := by
  obtain ⟨f, fd, ps, F, hm, kp, b⟩ := c.ex
  exact pe_callS F (hr.mono hk) hg hm kp b (fun σ => passAt tk σ) ha hdb he hpl
/-- o.m(..), a method that may raise -/
def tMthS (C : Addr) (m : Str) (sp : Sp) (E : L2.St → XK) (to : TE) (t : TA) : TE := fun σ H Q => to σ H fun x H1 => ∃ a dx fs, x = .ref a ∧ H1 a = some (.ins C dx fs) ∧ fs.lookup m = none ∧ t σ H1 fun vs H2 => sp (x :: vs) H2 Q (E σ)
theorem pmtS {pl : Sem Bool} (c : Met X.prog X.w X.K X.mg X.base (L2.CX X.prog X.w) k C m sp) (hr : Room j X.A) (hk : k ≤ j) (tk : Takes X W) (ho : PE X o to) (ha : PA X (e :: es) t)
    (hst : starEach (e :: es) X.env = (false, eval e X.env) :: starEach es X.env := by rfl) (hpl : (backTo pos (starEach es X.env)).any (·.1) = false := by rfl)
    (ht : eval (.Call (.Attribute o m apos) (e :: es) [] pos) X.env = (do
      let ov ← eval o X.env
      standAt apos.atName
      let (f, first) ← holding [ov] (getMethod ov m pl)
      callWith pos f first (backTo pos (starEach (e :: es) X.env)) (backToKw pos (keywordEach [] X.env))) := by rfl) :
    PE X (.Call (.Attribute o m apos) (e :: es) [] pos) (tMthS C m sp (WE W) to t) := by
  obtain ⟨f, fd, ps, hc, hm, F, b⟩ := c.ex
  refine ⟨fun pins s σ H Q I h => ?_⟩
  refine PySem.W.methodCall_KW (pl := pl) (thn (ho.run pins s σ H _ I h) fun u s1 ⟨x, H1, I1, rx, a, dx, fs, ex, ea, l, q⟩ => ?_) ht
  subst ex
  obtain rfl : u = Value.ref a := rx
  refine getmeth_ok I1 ea hc hm l ?_
  refine PySem.W.callWith_K (first := [.ref a]) (h₀ := X.base) I.ok.mod.kin hm.kp (thn (ha.run pos pins s1 σ H1 _ I1 q) fun us s2 ⟨vs, H2, I2, r, q2⟩ => ⟨I2.kIn, ?_⟩) hst hpl
  exact run_fnS (us := .ref a :: us) (vs := .ref a :: vs) F (hr.mono hk) b (passAt tk σ) I2 (.cons rfl r) q2
end
/-! ### the readings of raise -/
/-- the promise of an __init__ without arguments: the number is n -/
def spE (K : PySem.W.Frag) (n : Int) : Sp := fun vs H Q _ => ∃ (a C fI : Addr), vs = [.ref a] ∧ ExC K C fI ∧ H a = some (exo a C none) ∧
  ∀ d, H d = none → d ≠ a → Q .non (upd (upd H d (exd d [("number", .int n)])) a (exo a C (some d)))
/-- .. with the number, or the place, as an argument; g: the fields that are set -/
def spE1 (K : PySem.W.Frag) (g : Int → List (Str × V)) : Sp := fun vs H Q _ => ∃ (a C fI : Addr) (n : Int), vs = [.ref a, .int n] ∧ ExC K C fI ∧ H a = some (exo a C none) ∧
  ∀ d, H d = none → d ≠ a → Q .non (upd (upd H d (exd d (g n))) a (exo a C (some d)))
theorem gone_ex {H : Hp} {a d C : Addr} {fs : List (Str × V)} (na : H a = none) (nd : (upd H a (exo a C none)) d = none) (nda : d ≠ a) :
    H d = none ∧ Ex H (upd (del (upd (upd (upd H a (exo a C none)) d (exd d fs)) a (exo a C (some d))) a) d (.xd fs)) := by
  have hd : H d = none := by rw [upd_ne nda] at nd; exact nd
  refine ⟨hd, fun b o hb => ?_⟩
  have ba : b ≠ a := ne_of_none hb na
  have bd : b ≠ d := ne_of_none hb hd
  rw [upd_ne bd, del_ne ba, upd_ne ba, upd_ne bd, upd_ne ba]
  exact hb
theorem raise_E {K : PySem.W.Frag} {C fI : Addr} {n : Int} {σ : L2.St} {H : Hp} {Q : XK} (T : ExC K C fI) (h : ∀ d H', H d = none → Ex H H' → H' d = some (.xd [("number", .int n)]) → Q (.ref C) (some d) H') : tEx C (spE K n) tNil σ H Q :=
  ⟨Nat.zero_le _, fun a na => ⟨a, C, fI, rfl, T, upd_same, fun d nd nda => by
    obtain ⟨hd, ee⟩ := gone_ex (fs := [("number", .int n)]) na nd nda
    exact ⟨rfl, d, [("number", .int n)], upd_same, by rw [upd_ne nda]; exact upd_same, hd, h d _ hd ee upd_same⟩⟩⟩
theorem raise_E1 {K : PySem.W.Frag} {C fI : Addr} {n : Int} {g : Int → List (Str × V)} {ta : TA} {σ : L2.St} {H : Hp} {Q : XK} (T : ExC K C fI) (ha : EvA ta σ H [.int n]) (h : ∀ d H', H d = none → Ex H H' → H' d = some (.xd (g n)) → Q (.ref C) (some d) H') : tEx C (spE1 K g) ta σ H Q :=
  ha H (Ex.refl _) _ fun H1 e1 => ⟨by simp, fun a na => ⟨a, C, fI, n, rfl, T, upd_same, fun d nd nda => by
    obtain ⟨hd, ee⟩ := gone_ex (fs := g n) na nd nda
    exact ⟨rfl, d, g n, upd_same, by rw [upd_ne nda]; exact upd_same, hd, h d _ (fresh_back e1 hd) (e1.trans ee) upd_same⟩⟩⟩
end N
set_option Elab.async false
set_option linter.all false
set_option maxRecDepth 100000
set_option maxHeartbeats 4000000
namespace N
open PySem PySem.Spec PyProof.Rows L2 Evl
open NM (vI FOk)
theorem spl_spl1 (c : Nat) : ∀ (l acc : List Nat), TL.spl [c] 0 acc l = (match NM.spl1 c l with
  | [] => [acc]
  | w :: r => (acc ++ w) :: r)
  | [], acc => by
    rw [TL.spl_nil]
    show _ = [acc ++ []]
    rw [List.append_nil]
  | x :: l, acc => by
    obtain ⟨w, r, e⟩ := NM.spl1_cons c l
    by_cases h : x = c
    · subst h
      have hp : TL.pre [x] (x :: l) = true := by simp [TL.pre]
      rw [TL.spl_hit hp, NM.spl1_hit]
      have ih := spl_spl1 x l []
      rw [e] at ih
      show acc :: TL.spl [x] 0 [] l = (acc ++ []) :: NM.spl1 x l
      rw [ih, e, List.append_nil]
      rfl
    · have hp : TL.pre [c] (x :: l) = false := by simp [TL.pre, h]
      rw [TL.spl_miss hp, NM.spl1_miss h e, spl_spl1 c l, e]
      show (acc ++ [x] ++ w) :: r = (acc ++ x :: w) :: r
      rw [List.append_assoc]
      rfl
theorem log2_small {n : Nat} (h : n < 1000000) : n.log2 < 1920 := by
  by_cases h0 : n = 0
  · subst h0
    decide
  · rw [Nat.log2_lt h0]
    exact Nat.lt_of_lt_of_le h (Nat.le_trans (by decide : 1000000 ≤ 2 ^ 20) (Nat.pow_le_pow_right (by decide) (by decide)))
theorem split_one (c : Nat) (hc : c < 256) (l : List Nat) : Txt.split (S l) (S [c]) = (NM.spl1 c l).map fun w => S w := by
  have e := SX.split_S (a := l) (b := [c]) (by simp) (by simp [hc])
  have e2 := spl_spl1 c l []
  obtain ⟨w, r, h⟩ := NM.spl1_cons c l
  rw [h] at e2
  refine e.trans ?_
  rw [e2, h]
  rfl
section
variable {K : PySem.W.Frag} {σ : L2.St} {H H' : Hp} {ta tb tc te tl to : TE} {t : TT} {x y z v : V} {D : Ends} {tz : TS}
theorem el_split {c : Nat} {l : List Nat} (ho : Ev to σ H (.str (S l))) (he : Ev te σ H (.str (S [c]))) (hc : c < 256) (hl : l.length ≤ 50000) : EvL (tM1 rSplit to te) σ H (vstrs (NM.spl1 c l)) :=
  fun H1 e1 Q k => ho H1 e1 _ fun H2 e2 => ⟨⟨_, rfl⟩, he H2 (e1.trans e2) _ fun H3 e3 => ⟨S l, S [c], rfl, rfl, rfl, sz_of (by show (S l).length + 2 ≤ 100000; rw [SX.S_len]; omega), fun p np => by
    rw [split_one c hc]
    exact k p _ (fresh_back (e2.trans e3) np) ((e2.trans e3).trans (Ex.new np)) (by rw [upd_same, vstrs, List.map_map]; rfl)⟩⟩
theorem ev_chain {i j k : Int} (ha : Ev ta σ H (.int i)) (hb : Ev tb σ H (.int j)) (hc : Ev tc σ H (.int k)) : Ev (tChain (rI0 fun i j => .bl (decide (i ≤ j))) (rI0 fun i j => .bl (decide (i ≤ j))) ta tb tc) σ H (.bl (decide (i ≤ j) && decide (j ≤ k))) :=
  fun H1 e1 Q q => ha H1 e1 _ fun H2 e2 => hb H2 (e1.trans e2) _ fun H3 e3 => ⟨i, j, rfl, rfl, _, rfl, by
    cases h : decide (i ≤ j) with
    | true => exact iteT (hc H3 ((e1.trans e2).trans e3) _ fun H4 e4 => ⟨j, k, rfl, rfl, by
        have z := q H4 ((e2.trans e3).trans e4)
        rw [h, Bool.true_and] at z
        exact z⟩)
    | false => exact iteF (by
        have z := q H3 (e2.trans e3)
        rw [h, Bool.false_and] at z
        exact z)⟩
theorem ev_strI {n : Nat} (h : Ev te σ H (.int (n : Int))) (hn : n < 1000000) : Ev (tCB rStrI (tCons te tNil)) σ H (.str (S (TL.numL n))) :=
  ev_cb (ea_one h) fun H1 _ Q k => ⟨(n : Int), rfl, by
    have : ((n : Int).natAbs) = n := Int.natAbs_natCast n
    rw [this]
    exact log2_small hn, by
    have e : (Str.ofString (toString ((n : Nat) : Int))) = S (TL.numL n) := SX.num_S n
    show Q (.str (Str.ofString (toString ((n : Nat) : Int)))) H1
    rw [e]
    exact k H1 (Ex.refl _)⟩
theorem ev_ixS {l : List Nat} {i c : Nat} (ha : Ev ta σ H (.str (S l))) (hb : Ev tb σ H (.int (i : Int))) (hc : l[i]? = some c) (hl : l.length ≤ 50000) : Ev (tOp rIxS ta tb) σ H (.str (S [c])) :=
  ev_op ha hb (rv_ixS (w := S l) (by rw [SX.S_len]; omega) (atI_nat hc))
theorem ev_lenS {l : List Nat} (h : Ev te σ H (.str (S l))) (hl : l.length ≤ 50000) : Ev (tCB rLenStr (tCons te tNil)) σ H (.int (l.length : Int)) :=
  ev_cb (ea_one h) fun H1 _ Q k => ⟨S l, rfl, sz_of (by rw [SX.S_len]; omega), by rw [SX.S_len]; exact k H1 (Ex.refl _)⟩
end
/-- the words of a text in the heap: pairs of a text and a place -/
def WTups (H : Hp) : List Addr → List VbenCore.Word → Prop
  | [], [] => True
  | a :: as, w :: ws => H a = some (.tup [.str (S w.2), .int (w.1 : Int)]) ∧ WTups H as ws
  | _, _ => False
theorem WTups.ex {H H' : Hp} (e : Ex H H') : ∀ {as : List Addr} {ws : List VbenCore.Word}, WTups H as ws → WTups H' as ws
  | [], [], _ => trivial
  | _ :: _, _ :: _, h => ⟨e _ _ h.1, WTups.ex e h.2⟩
theorem WTups.len {H : Hp} : ∀ {as : List Addr} {ws : List VbenCore.Word}, WTups H as ws → as.length = ws.length
  | [], [], _ => rfl
  | _ :: _, _ :: _, h => congrArg Nat.succ (WTups.len h.2)
theorem WTups.get {H : Hp} : ∀ {as : List Addr} {ws : List VbenCore.Word} {i : Nat} {w : VbenCore.Word}, WTups H as ws → ws[i]? = some w → ∃ a, as[i]? = some a ∧ H a = some (.tup [.str (S w.2), .int (w.1 : Int)])
  | [], [], i, w, _, h => by cases i <;> cases h
  | a :: as, r :: ws, 0, w, h, e => ⟨a, rfl, by cases e; exact h.1⟩
  | a :: as, r :: ws, i + 1, w, h, e => WTups.get (i := i) h.2 e
theorem WTups.snoc {H : Hp} {p : Addr} {w : VbenCore.Word} (hp : H p = some (.tup [.str (S w.2), .int (w.1 : Int)])) : ∀ {as : List Addr} {ws : List VbenCore.Word}, WTups H as ws → WTups H (as ++ [p]) (ws ++ [w])
  | [], [], _ => ⟨hp, trivial⟩
  | _ :: _, _ :: _, h => ⟨h.1, WTups.snoc hp h.2⟩
theorem WTups.keep {H H' : Hp} (e : ∀ b xs, H b = some (.tup xs) → H' b = some (.tup xs)) : ∀ {as : List Addr} {ws : List VbenCore.Word}, WTups H as ws → WTups H' as ws
  | [], [], _ => trivial
  | _ :: _, _ :: _, h => ⟨e _ _ h.1, WTups.keep e h.2⟩
theorem tup_upd {H : Hp} {l b : Addr} {xs ys : List V} {o : HO} (hl : H l = some (.lst ys)) (h : H b = some (.tup xs)) : (L2.upd H l o) b = some (.tup xs) := by
  rw [upd_ne (ne_of h hl (by intro z; cases z))]
  exact h
end N
set_option Elab.async false
set_option linter.all false
set_option maxRecDepth 100000
set_option maxHeartbeats 4000000
namespace N
open PySem PySem.Spec PyProof.Rows L2 Evl
open NM (vI FOk)
section
variable {P : Program} {w : World} {K : PySem.W.Frag} {mg : Str → Option Value} {base : Heap}
def fNum (n : Int) : List (Str × V) := [("number", .int n)]
def fFault (p : Int) : List (Str × V) := [("place", .int p), ("number", .int (-1000 - p))]
-- def __init__(self, number):
--     self.number = number
-- slots 0:self 1:number
abbrev sRefusal_init : Stmt := inClass (top 1) 0
theorem scRefusal_init : FnScope ["self", "number"] ["self", "number"] (defScope sRefusal_init) := ⟨rfl, rfl, rfl, by decide +kernel, rfl, by decide +kernel, by decide +kernel⟩
theorem okE_Refusal {f : Addr} {fd : FuncData} (F : Fun K "__init__" "Refusal.__init__" sRefusal_init f fd) : FnOk P w K mg base CX0 1 f fd ["self", "number"] (spE1 K fNum) := by
  refine F.ok scRefusal_init (fun vs H Q E h => ?_) (fun cdv A outer s H vs Q E hr h => ?_)
  · obtain ⟨a, C, fI, n, rfl, _⟩ := h
    rfl
  · obtain ⟨a, C, fI, n, rfl, T, ha, q⟩ := h
    refine ⟨_, (pss_one (psest K (pv 0) (pv 1))), ?_⟩
    exact ⟨_, rfl, _, rfl, a, C, fI, rfl, T, T.nN, .inl ⟨ha, fun d nd nda => q d nd nda⟩⟩
-- def __init__(self):
--     Refusal.__init__(self, -1)
-- slots 0:self
abbrev sNotBytes_init : Stmt := inClass (top 2) 0
theorem scNotBytes_init : FnScope ["self"] ["self"] (defScope sNotBytes_init) := ⟨rfl, rfl, rfl, by decide +kernel, rfl, by decide +kernel, by decide +kernel⟩
theorem okE_NotBytes {f f_Refusal_init CR : Addr} {fd fdR : FuncData} (F : Fun K "__init__" "NotBytes.__init__" sNotBytes_init f fd) (q_Refusal_init : ClsFn K mg "Refusal" "__init__" CR f_Refusal_init) (F_Refusal_init : FnOk P w K mg base CX0 1 f_Refusal_init fdR ["self", "number"] (spE1 K fNum)) (b_Refusal_init : Binds K fdR ["self", "number"] []) :
    FnOk P w K mg base CX0 2 f fd ["self"] (spE K (-1)) := by
  refine F.ok scNotBytes_init (fun vs H Q E h => ?_) (fun cdv A outer s H vs Q E hr h => ?_)
  · obtain ⟨a, C, fI, rfl, _⟩ := h
    rfl
  · obtain ⟨a, C, fI, rfl, T, ha, q⟩ := h
    refine ⟨_, (pss_one (ps_expr (pclsf q_Refusal_init F_Refusal_init b_Refusal_init hr (by decide) (by rfl) (pa_cons (pv 0) (pa_cons (pe_un un_neg pe_int) pa_nil))))), ?_⟩
    exact ⟨_, rfl, _, rfl, a, C, fI, -1, rfl, T, ha, fun d nd nda => q d nd nda⟩
-- def __init__(self):
--     Refusal.__init__(self, -3)
-- slots 0:self
abbrev sOutOfRange_init : Stmt := inClass (top 3) 0
theorem scOutOfRange_init : FnScope ["self"] ["self"] (defScope sOutOfRange_init) := ⟨rfl, rfl, rfl, by decide +kernel, rfl, by decide +kernel, by decide +kernel⟩
theorem okE_OutOfRange {f f_Refusal_init CR : Addr} {fd fdR : FuncData} (F : Fun K "__init__" "OutOfRange.__init__" sOutOfRange_init f fd) (q_Refusal_init : ClsFn K mg "Refusal" "__init__" CR f_Refusal_init) (F_Refusal_init : FnOk P w K mg base CX0 1 f_Refusal_init fdR ["self", "number"] (spE1 K fNum)) (b_Refusal_init : Binds K fdR ["self", "number"] []) :
    FnOk P w K mg base CX0 2 f fd ["self"] (spE K (-3)) := by
  refine F.ok scOutOfRange_init (fun vs H Q E h => ?_) (fun cdv A outer s H vs Q E hr h => ?_)
  · obtain ⟨a, C, fI, rfl, _⟩ := h
    rfl
  · obtain ⟨a, C, fI, rfl, T, ha, q⟩ := h
    refine ⟨_, (pss_one (ps_expr (pclsf q_Refusal_init F_Refusal_init b_Refusal_init hr (by decide) (by rfl) (pa_cons (pv 0) (pa_cons (pe_un un_neg pe_int) pa_nil))))), ?_⟩
    exact ⟨_, rfl, _, rfl, a, C, fI, -3, rfl, T, ha, fun d nd nda => q d nd nda⟩
-- def __init__(self):
--     Refusal.__init__(self, -4)
-- slots 0:self
abbrev sBadList_init : Stmt := inClass (top 4) 0
theorem scBadList_init : FnScope ["self"] ["self"] (defScope sBadList_init) := ⟨rfl, rfl, rfl, by decide +kernel, rfl, by decide +kernel, by decide +kernel⟩
theorem okE_BadList {f f_Refusal_init CR : Addr} {fd fdR : FuncData} (F : Fun K "__init__" "BadList.__init__" sBadList_init f fd) (q_Refusal_init : ClsFn K mg "Refusal" "__init__" CR f_Refusal_init) (F_Refusal_init : FnOk P w K mg base CX0 1 f_Refusal_init fdR ["self", "number"] (spE1 K fNum)) (b_Refusal_init : Binds K fdR ["self", "number"] []) :
    FnOk P w K mg base CX0 2 f fd ["self"] (spE K (-4)) := by
  refine F.ok scBadList_init (fun vs H Q E h => ?_) (fun cdv A outer s H vs Q E hr h => ?_)
  · obtain ⟨a, C, fI, rfl, _⟩ := h
    rfl
  · obtain ⟨a, C, fI, rfl, T, ha, q⟩ := h
    refine ⟨_, (pss_one (ps_expr (pclsf q_Refusal_init F_Refusal_init b_Refusal_init hr (by decide) (by rfl) (pa_cons (pv 0) (pa_cons (pe_un un_neg pe_int) pa_nil))))), ?_⟩
    exact ⟨_, rfl, _, rfl, a, C, fI, -4, rfl, T, ha, fun d nd nda => q d nd nda⟩
-- def __init__(self):
--     Refusal.__init__(self, -5)
-- slots 0:self
abbrev sNotThere_init : Stmt := inClass (top 5) 0
theorem scNotThere_init : FnScope ["self"] ["self"] (defScope sNotThere_init) := ⟨rfl, rfl, rfl, by decide +kernel, rfl, by decide +kernel, by decide +kernel⟩
theorem okE_NotThere {f f_Refusal_init CR : Addr} {fd fdR : FuncData} (F : Fun K "__init__" "NotThere.__init__" sNotThere_init f fd) (q_Refusal_init : ClsFn K mg "Refusal" "__init__" CR f_Refusal_init) (F_Refusal_init : FnOk P w K mg base CX0 1 f_Refusal_init fdR ["self", "number"] (spE1 K fNum)) (b_Refusal_init : Binds K fdR ["self", "number"] []) :
    FnOk P w K mg base CX0 2 f fd ["self"] (spE K (-5)) := by
  refine F.ok scNotThere_init (fun vs H Q E h => ?_) (fun cdv A outer s H vs Q E hr h => ?_)
  · obtain ⟨a, C, fI, rfl, _⟩ := h
    rfl
  · obtain ⟨a, C, fI, rfl, T, ha, q⟩ := h
    refine ⟨_, (pss_one (ps_expr (pclsf q_Refusal_init F_Refusal_init b_Refusal_init hr (by decide) (by rfl) (pa_cons (pv 0) (pa_cons (pe_un un_neg pe_int) pa_nil))))), ?_⟩
    exact ⟨_, rfl, _, rfl, a, C, fI, -5, rfl, T, ha, fun d nd nda => q d nd nda⟩
-- def __init__(self):
--     Refusal.__init__(self, -6)
-- slots 0:self
abbrev sNotAsked_init : Stmt := inClass (top 6) 0
theorem scNotAsked_init : FnScope ["self"] ["self"] (defScope sNotAsked_init) := ⟨rfl, rfl, rfl, by decide +kernel, rfl, by decide +kernel, by decide +kernel⟩
theorem okE_NotAsked {f f_Refusal_init CR : Addr} {fd fdR : FuncData} (F : Fun K "__init__" "NotAsked.__init__" sNotAsked_init f fd) (q_Refusal_init : ClsFn K mg "Refusal" "__init__" CR f_Refusal_init) (F_Refusal_init : FnOk P w K mg base CX0 1 f_Refusal_init fdR ["self", "number"] (spE1 K fNum)) (b_Refusal_init : Binds K fdR ["self", "number"] []) :
    FnOk P w K mg base CX0 2 f fd ["self"] (spE K (-6)) := by
  refine F.ok scNotAsked_init (fun vs H Q E h => ?_) (fun cdv A outer s H vs Q E hr h => ?_)
  · obtain ⟨a, C, fI, rfl, _⟩ := h
    rfl
  · obtain ⟨a, C, fI, rfl, T, ha, q⟩ := h
    refine ⟨_, (pss_one (ps_expr (pclsf q_Refusal_init F_Refusal_init b_Refusal_init hr (by decide) (by rfl) (pa_cons (pv 0) (pa_cons (pe_un un_neg pe_int) pa_nil))))), ?_⟩
    exact ⟨_, rfl, _, rfl, a, C, fI, -6, rfl, T, ha, fun d nd nda => q d nd nda⟩
-- def __init__(self):
--     Refusal.__init__(self, -6)
-- slots 0:self
abbrev sHoleNotched_init : Stmt := inClass (top 7) 0
theorem scHoleNotched_init : FnScope ["self"] ["self"] (defScope sHoleNotched_init) := ⟨rfl, rfl, rfl, by decide +kernel, rfl, by decide +kernel, by decide +kernel⟩
theorem okE_HoleNotched {f f_Refusal_init CR : Addr} {fd fdR : FuncData} (F : Fun K "__init__" "HoleNotched.__init__" sHoleNotched_init f fd) (q_Refusal_init : ClsFn K mg "Refusal" "__init__" CR f_Refusal_init) (F_Refusal_init : FnOk P w K mg base CX0 1 f_Refusal_init fdR ["self", "number"] (spE1 K fNum)) (b_Refusal_init : Binds K fdR ["self", "number"] []) :
    FnOk P w K mg base CX0 2 f fd ["self"] (spE K (-6)) := by
  refine F.ok scHoleNotched_init (fun vs H Q E h => ?_) (fun cdv A outer s H vs Q E hr h => ?_)
  · obtain ⟨a, C, fI, rfl, _⟩ := h
    rfl
  · obtain ⟨a, C, fI, rfl, T, ha, q⟩ := h
    refine ⟨_, (pss_one (ps_expr (pclsf q_Refusal_init F_Refusal_init b_Refusal_init hr (by decide) (by rfl) (pa_cons (pv 0) (pa_cons (pe_un un_neg pe_int) pa_nil))))), ?_⟩
    exact ⟨_, rfl, _, rfl, a, C, fI, -6, rfl, T, ha, fun d nd nda => q d nd nda⟩
-- def __init__(self):
--     Refusal.__init__(self, -7)
-- slots 0:self
abbrev sWithoutWay_init : Stmt := inClass (top 8) 0
theorem scWithoutWay_init : FnScope ["self"] ["self"] (defScope sWithoutWay_init) := ⟨rfl, rfl, rfl, by decide +kernel, rfl, by decide +kernel, by decide +kernel⟩
theorem okE_WithoutWay {f f_Refusal_init CR : Addr} {fd fdR : FuncData} (F : Fun K "__init__" "WithoutWay.__init__" sWithoutWay_init f fd) (q_Refusal_init : ClsFn K mg "Refusal" "__init__" CR f_Refusal_init) (F_Refusal_init : FnOk P w K mg base CX0 1 f_Refusal_init fdR ["self", "number"] (spE1 K fNum)) (b_Refusal_init : Binds K fdR ["self", "number"] []) :
    FnOk P w K mg base CX0 2 f fd ["self"] (spE K (-7)) := by
  refine F.ok scWithoutWay_init (fun vs H Q E h => ?_) (fun cdv A outer s H vs Q E hr h => ?_)
  · obtain ⟨a, C, fI, rfl, _⟩ := h
    rfl
  · obtain ⟨a, C, fI, rfl, T, ha, q⟩ := h
    refine ⟨_, (pss_one (ps_expr (pclsf q_Refusal_init F_Refusal_init b_Refusal_init hr (by decide) (by rfl) (pa_cons (pv 0) (pa_cons (pe_un un_neg pe_int) pa_nil))))), ?_⟩
    exact ⟨_, rfl, _, rfl, a, C, fI, -7, rfl, T, ha, fun d nd nda => q d nd nda⟩
-- def __init__(self):
--     Refusal.__init__(self, -9)
-- slots 0:self
abbrev sTooManyTables_init : Stmt := inClass (top 9) 0
theorem scTooManyTables_init : FnScope ["self"] ["self"] (defScope sTooManyTables_init) := ⟨rfl, rfl, rfl, by decide +kernel, rfl, by decide +kernel, by decide +kernel⟩
theorem okE_TooManyTables {f f_Refusal_init CR : Addr} {fd fdR : FuncData} (F : Fun K "__init__" "TooManyTables.__init__" sTooManyTables_init f fd) (q_Refusal_init : ClsFn K mg "Refusal" "__init__" CR f_Refusal_init) (F_Refusal_init : FnOk P w K mg base CX0 1 f_Refusal_init fdR ["self", "number"] (spE1 K fNum)) (b_Refusal_init : Binds K fdR ["self", "number"] []) :
    FnOk P w K mg base CX0 2 f fd ["self"] (spE K (-9)) := by
  refine F.ok scTooManyTables_init (fun vs H Q E h => ?_) (fun cdv A outer s H vs Q E hr h => ?_)
  · obtain ⟨a, C, fI, rfl, _⟩ := h
    rfl
  · obtain ⟨a, C, fI, rfl, T, ha, q⟩ := h
    refine ⟨_, (pss_one (ps_expr (pclsf q_Refusal_init F_Refusal_init b_Refusal_init hr (by decide) (by rfl) (pa_cons (pv 0) (pa_cons (pe_un un_neg pe_int) pa_nil))))), ?_⟩
    exact ⟨_, rfl, _, rfl, a, C, fI, -9, rfl, T, ha, fun d nd nda => q d nd nda⟩
-- def __init__(self, place):
--     Refusal.__init__(self, -1000 - place)
--     self.place = place
-- slots 0:self 1:place
abbrev sFault_init : Stmt := inClass (top 10) 0
theorem scFault_init : FnScope ["self", "place"] ["self", "place"] (defScope sFault_init) := ⟨rfl, rfl, rfl, by decide +kernel, rfl, by decide +kernel, by decide +kernel⟩
theorem okE_Fault {f f_Refusal_init CR : Addr} {fd fdR : FuncData} (F : Fun K "__init__" "Fault.__init__" sFault_init f fd) (q_Refusal_init : ClsFn K mg "Refusal" "__init__" CR f_Refusal_init) (F_Refusal_init : FnOk P w K mg base CX0 1 f_Refusal_init fdR ["self", "number"] (spE1 K fNum)) (b_Refusal_init : Binds K fdR ["self", "number"] []) :
    FnOk P w K mg base CX0 2 f fd ["self", "place"] (spE1 K fFault) := by
  refine F.ok scFault_init (fun vs H Q E h => ?_) (fun cdv A outer s H vs Q E hr h => ?_)
  · obtain ⟨a, C, fI, n, rfl, _⟩ := h
    rfl
  · obtain ⟨a, C, fI, n, rfl, T, ha, q⟩ := h
    refine ⟨_, (pss_cons (ps_expr (pclsf q_Refusal_init F_Refusal_init b_Refusal_init hr (by decide) (by rfl) (pa_cons (pv 0) (pa_cons (pe_op op_sub (pe_un un_neg pe_int) (pv 1)) pa_nil))))
      (pss_one (psest K (pv 0) (pv 1)))), ?_⟩
    refine ⟨_, rfl, 1000, rfl, _, rfl, _, _, rfl, rfl, a, C, fI, _, rfl, T, ha, fun d nd nda => ?_⟩
    refine ⟨_, rfl, _, rfl, a, C, fI, rfl, T, T.nP, .inr ⟨d, _, upd_same, by rw [upd_ne nda]; exact upd_same, Nat.le_of_ble_eq_true rfl, ?_⟩⟩
    have e : upd (upd (upd H d (exd d (fNum (-1000 - n)))) a (exo a C (some d))) d (exd d (fFault n)) = upd (upd H d (exd d (fFault n))) a (exo a C (some d)) := by
      funext b
      by_cases hb : b = d
      · subst hb
        rw [upd_same, upd_ne nda, upd_same]
      · rw [upd_ne hb]
        by_cases hab : b = a
        · subst hab
          rw [upd_same, upd_same]
        · rw [upd_ne hab, upd_ne hab, upd_ne hb, upd_ne hb]
    have z := q d nd nda
    rw [← e] at z
    exact z
end
end N
set_option Elab.async false
set_option linter.all false
set_option maxRecDepth 100000
set_option maxHeartbeats 4000000
namespace N
open PySem PySem.Spec PyProof.Rows L2 Evl
open NM (vI FOk)
/-- what the top says of the names of texts -/
structure TxtT (mg : Str → Option Value) : Prop where
  len : mg "len" = none
  str : mg "str" = none
  LINE_END : gs mg "LINE_END" "\n"
  LETTERS : gs mg "LETTERS" "abcdefghijklmnopqrstuvwxyz"
theorem s_lineEnd : (Str.ofString "\n") = S [10] := by decide +kernel
theorem s_blank : (Str.ofString " ") = S [32] := by decide +kernel
theorem s_quest : (Str.ofString "?") = S [63] := by decide +kernel
theorem s_letters : (Str.ofString "abcdefghijklmnopqrstuvwxyz") = S ((List.range 26).map fun i => 97 + i) := by decide +kernel
theorem s_empty : (Str.ofString "") = S [] := by decide +kernel
section
variable {P : Program} {w : World} {K : PySem.W.Frag} {mg : Str → Option Value} {base : Heap}
-- def sign_of(code):
--     if code == 10:
--         return LINE_END
--     if code == 32:
--         return ' '
--     if 48 <= code <= 57:
--         return str(code - 48)
--     if 97 <= code <= 122:
--         return LETTERS[code - 97]
--     return '?'
-- slots 0:code
abbrev ssign_of : Stmt := top 26
theorem scsign_of : FnScope ["code"] ["code"] (defScope ssign_of) := ⟨rfl, rfl, rfl, by decide +kernel, rfl, by decide +kernel, by decide +kernel⟩
def sp_sign_of : Sp := pV fun vs H v => ∃ c : Nat, vs = [.int c] ∧ c < 256 ∧ v = .str (S [NM.sg c])
theorem ok_sign_of {f : Addr} {fd : FuncData} (F : Fun K "sign_of" "sign_of" ssign_of f fd) (T : TxtT mg) : FnOk P w K mg base CX0 1 f fd ["code"] sp_sign_of := by
  refine F.ok scsign_of (fun vs H Q E h => ?_) (fun cdv A outer s H vs Q E hr h => ?_)
  · obtain ⟨v, ⟨c, rfl, _⟩, _⟩ := h
    rfl
  · obtain ⟨v, ⟨c, rfl, hc, rfl⟩, ret⟩ := h
    refine ⟨_, (pss_cons (ps_if (pt_cmpR op_eq (pv 0) pe_int (nomark _))
        (pss_one (ps_ret (pgs T.LINE_END)))
        pss_nil)
      (pss_cons (ps_if (pt_cmpR op_eq (pv 0) pe_int (nomark _))
        (pss_one (ps_ret pe_str))
        pss_nil)
      (pss_cons (ps_if (pt_chain op_le op_le pe_int (pv 0) pe_int)
        (pss_one (ps_ret (pstr T.str (pe_op op_sub (pv 0) pe_int))))
        pss_nil)
      (pss_cons (ps_if (pt_chain op_le op_le pe_int (pv 0) pe_int)
        (pss_one (ps_ret (pixs (pgs T.LETTERS) (pe_op op_sub (pv 0) pe_int))))
        pss_nil)
      (pss_one (ps_ret pe_str)))))), ?_⟩
    have eqI : ∀ {σ : L2.St} {H1 : Hp} (k : Nat), σ[0]? = some (some (.int (c : Int))) → EvT (tTest (tOp rEq (tVar 0) (tC (.int (k : Int))))) σ H1 (decide (c = k)) := fun k h0 => et_test (ev_is (ev_op (ev_var h0) ev_c (rv_eq rfl)) (NM.bl_int_eq _ _))
    refine q_when (eqI 10 rfl) (fun h1 H1 e1 => ?_) (fun h1 H1 e1 => ?_)
    · rw [decide_eq_true_eq] at h1
      subst h1
      refine s_ret ev_c fun H2 e2 => ?_
      rw [s_lineEnd]
      exact ret H2 (e1.trans e2)
    rw [decide_eq_false_iff_not] at h1
    refine q_when (eqI 32 rfl) (fun h2 H2 e2 => ?_) (fun h2 H2 e2 => ?_)
    · rw [decide_eq_true_eq] at h2
      subst h2
      refine s_ret ev_c fun H3 e3 => ?_
      rw [s_blank]
      exact ret H3 (e1.trans (e2.trans e3))
    rw [decide_eq_false_iff_not] at h2
    have e12 := e1.trans e2
    refine q_when (et_test (ev_chain ev_c (ev_var rfl) ev_c)) (fun h3 H3 e3 => ?_) (fun h3 H3 e3 => ?_)
    · rw [Bool.and_eq_true, decide_eq_true_eq, decide_eq_true_eq] at h3
      obtain ⟨n, hn⟩ : ∃ n, c = 48 + n := ⟨c - 48, by omega⟩
      have hv : NM.sg c = 48 + n := by unfold NM.sg; rw [if_neg h1, if_neg h2, if_pos (by omega)]; omega
      rw [hv] at ret
      refine s_ret (ev_is (ev_strI (n := n) (ev_is (ev_op (ev_var rfl) ev_c rv_I0) (by rw [hn]; congr 1; omega)) (by omega)) (by rw [TL.numL_lt (by omega)])) fun H4 e4 => ret H4 (e12.trans (e3.trans e4))
    have h3' : ¬ (48 ≤ c ∧ c ≤ 57) := by
      intro z
      rw [Bool.and_eq_false_iff, decide_eq_false_iff_not, decide_eq_false_iff_not] at h3
      omega
    refine q_when (et_test (ev_chain ev_c (ev_var rfl) ev_c)) (fun h4 H4 e4 => ?_) (fun h4 H4 e4 => ?_)
    · rw [Bool.and_eq_true, decide_eq_true_eq, decide_eq_true_eq] at h4
      obtain ⟨n, hn⟩ : ∃ n, c = 97 + n := ⟨c - 97, by omega⟩
      have hv : NM.sg c = 97 + n := by unfold NM.sg; rw [if_neg h1, if_neg h2, if_neg h3', if_pos (by omega)]; omega
      rw [hv] at ret
      refine s_ret (ev_ixS (l := (List.range 26).map fun i => 97 + i) (i := n) (ev_is ev_c (by rw [s_letters])) (ev_is (ev_op (ev_var rfl) ev_c rv_I0) (by rw [hn]; congr 1; omega)) (by rw [List.getElem?_map, List.getElem?_range (by omega)]; rfl) (by simp)) fun H5 e5 => ret H5 (e12.trans (e3.trans (e4.trans e5)))
    have h4' : ¬ (97 ≤ c ∧ c ≤ 122) := by
      intro z
      rw [Bool.and_eq_false_iff, decide_eq_false_iff_not, decide_eq_false_iff_not] at h4
      omega
    have hv : NM.sg c = 63 := by unfold NM.sg; rw [if_neg h1, if_neg h2, if_neg h3', if_neg h4']
    rw [hv] at ret
    refine s_ret ev_c fun H5 e5 => ?_
    rw [s_quest]
    exact ret H5 (e12.trans (e3.trans (e4.trans e5)))
end
end N
set_option Elab.async false
set_option linter.all false
set_option maxRecDepth 100000
set_option maxHeartbeats 4000000
namespace N
open PySem PySem.Spec PyProof.Rows L2 Evl
open NM (vI FOk)
section
variable {P : Program} {w : World} {K : PySem.W.Frag} {mg : Str → Option Value} {base : Heap}
-- def words_of(text):
--     words = []
--     start = 0
--     for line in text.split(LINE_END):
--         if start > 0:
--             words.append((LINE_END, start - 1))
--         for word in line.split(' '):
--             words.append((word, start))
--             start += len(word) + 1
--     return words
-- slots 0:text 1:words 2:start 3:line 4:word
abbrev swords_of : Stmt := top 27
theorem scwords_of : FnScope ["text", "words", "start", "line", "word"] ["text"] (defScope swords_of) := ⟨rfl, rfl, rfl, by decide +kernel, rfl, by decide +kernel, by decide +kernel⟩
def sp_words_of : Sp := fun vs H Q _ => ∃ t : List Nat, vs = [.str (S t)] ∧ t.length ≤ 2000 ∧ ∀ p H', H p = none → Ex H H' → (∃ ts, H' p = some (.lst (vrefs ts)) ∧ WTups H' ts (VbenCore.cut 0 t)) → Q (.ref p) H'
theorem ok_words_of {f : Addr} {fd : FuncData} (F : Fun K "words_of" "words_of" swords_of f fd) (T : TxtT mg) : FnOk P w K mg base CX0 1 f fd ["text"] sp_words_of := by
  refine F.ok scwords_of (fun vs H Q E h => ?_) (fun cdv A outer s H vs Q E hr h => ?_)
  · obtain ⟨t, rfl, _⟩ := h
    rfl
  · obtain ⟨t, rfl, hl, ret⟩ := h
    refine ⟨_, (pss_cons (ps_set (i := 1) scwords_of.nd rfl (Or.inl rfl) (pe_lst pa_nil))
      (pss_cons (ps_set (i := 2) scwords_of.nd rfl (Or.inl rfl) pe_int)
      (pss_cons (ps_for PassesOwn.never rfl (piList K (psplit (pv 0) (pgs T.LINE_END))) (pg_name (i := 3) scwords_of.nd rfl (Or.inl rfl))
        (Evl.pss_cut (ps_if (pt_cmpR op_gt (pv 2) pe_int (nomark _))
        (pss_one (ps_expr (papp K (pv 1) (pe_tup (pa_cons (pgs T.LINE_END) (pa_cons (pe_op op_sub (pv 2) pe_int) pa_nil))))))
        pss_nil)
      (pss_one (ps_for PassesOwn.never rfl (piList K (psplit (pv 3) pe_str)) (pg_name (i := 4) scwords_of.nd rfl (Or.inl rfl))
        (pss_cons (ps_expr (papp K (pv 1) (pe_tup (pa_cons (pv 4) (pa_cons (pv 2) pa_nil)))))
      (pss_one (ps_aug (i := 2) scwords_of.nd rfl (Or.inl rfl) (pe_op op_add (plenS T.len (pv 4)) pe_int) ip_add)))))))
      (pss_one (ps_ret (pv 1)))))), ?_⟩
    have hlen := NM.cut_len t 0
    have hll := NM.spl1_len 10 t
    refine q_asgL (el_lst ea_nil (by decide)) fun b H1 nb e1 hb => ?_
    refine q_asg ev_c fun H2 e2 => ?_
    have e12 := e1.trans e2
    refine q_forNLn (xs := vstrs (NM.spl1 10 t)) (el_split (c := 10) (ev_var rfl) (ev_is ev_c (by rw [s_lineEnd])) (by decide) (by omega))
      (fun p i σ' H' => ∃ (n : Nat) (ts : List Addr) (ws : List VbenCore.Word) (v3 v4 : Option V), σ' = [some (.str (S t)), some (.ref b), some (.int (n : Int)), v3, v4] ∧ Ex H H' ∧ H' p = some (.lst (vstrs (NM.spl1 10 t))) ∧ H' b = some (.lst (vrefs ts)) ∧ WTups H' ts ws ∧ b ≠ p ∧
        VbenCore.cut 0 t = ws ++ (if i = 0 then NM.lls 0 (NM.spl1 10 t) else NM.llr n ((NM.spl1 10 t).drop i)) ∧ (n = 0 ↔ i = 0) ∧ (i = 0 → ws = []))
      (fun p H3 np e3 hp => ⟨0, [], [], none, none, rfl, e12.trans e3, hp, e3 _ _ (e2 _ _ hb), trivial, fun z => (by have y := e2 _ _ hb; rw [z, np] at y; cases y), by rw [if_pos rfl]; exact NM.cut_lines t 0, ⟨fun _ => rfl, fun _ => rfl⟩, fun _ => rfl⟩)
      (fun p i σ' H' _ ⟨_, _, _, _, _, _, _, h1, _⟩ => sq_of h1) ?_ ?_
    · rintro p i x σ' H' hi ⟨n, ts, ws, v3, v4, rfl, e3, hp, hb3, hw, nbp, hc, hn, h0⟩
      rw [vstrs, List.getElem?_map] at hi
      cases hli : (NM.spl1 10 t)[i]? with
      | none => rw [hli] at hi; cases hi
      | some line =>
        rw [hli] at hi
        have : x = .str (S line) := (Option.some.inj hi).symm
        subst this
        have lm := List.mem_of_getElem? hli
        have lw := NM.spl1_wlen 10 t line lm
        have il := (List.getElem?_eq_some_iff.mp hli).1
        have ed : (NM.spl1 10 t).drop i = line :: (NM.spl1 10 t).drop (i + 1) := by
          rw [List.drop_eq_getElem_cons il, (List.getElem?_eq_some_iff.mp hli).2]
        have hwl := hw.len
        have hcl : ws.length ≤ 2 * t.length + 1 := by
          have z := congrArg List.length hc
          rw [List.length_append] at z
          omega
        -- behind the if: the line's end is there
        refine q_cut (M := fun σ4 H4 => ∃ (ts : List Addr) (ws : List VbenCore.Word), σ4 = [some (.str (S t)), some (.ref b), some (.int (n : Int)), some (.str (S line)), v4] ∧ Ex H H4 ∧ H4 p = some (.lst (vstrs (NM.spl1 10 t))) ∧ H4 b = some (.lst (vrefs ts)) ∧ WTups H4 ts ws ∧
          VbenCore.cut 0 t = ws ++ (NM.wl n (NM.spl1 32 line) ++ NM.llr (n + (line.length + 1)) ((NM.spl1 10 t).drop (i + 1)))) ?_ ?_
        · refine s_when (b := decide (0 < n)) (et_test (ev_is (ev_op (ev_var rfl) ev_c rv_I0) ?_)) (fun hc0 H4 e4 => ?_) (fun hc0 H4 e4 => ?_)
          · show V.bl (decide ((0 : Int) < (n : Int))) = _
            congr 1
            rw [Bool.eq_iff_iff, decide_eq_true_eq, decide_eq_true_eq]
            omega
          · rw [decide_eq_true_eq] at hc0
            have i0 : i ≠ 0 := fun z => by have := hn.mpr z; omega
            rw [if_neg i0, ed] at hc
            refine s_appU (e4 _ _ hb3) (ev_var rfl) (eu_tup (ea_two (ev_is ev_c (by rw [s_lineEnd])) (ev_is (ev_op (ev_var rfl) ev_c rv_I0) (show V.int ((n : Int) - 1) = V.int ((n - 1 : Nat) : Int) by congr 1; omega))) (by simp)) (by rw [vrefs_len]; omega) fun q H5 nq e5 hq => ?_
            have hb5 := e5 _ _ (e4 _ _ hb3)
            refine ⟨ts ++ [q], ws ++ [(n - 1, [10])], rfl, Ex.mut (e3.trans (e4.trans e5)) nb, ?_, ?_, ?_, ?_⟩
            · rw [upd_ne (Ne.symm nbp)]
              exact e5 _ _ (e4 _ _ hp)
            · rw [upd_same, vrefs, vrefs, List.map_append]
              rfl
            · exact WTups.snoc (tup_upd hb5 hq) (WTups.keep (fun _ _ h => tup_upd hb5 h) (hw.ex (e4.trans e5)))
            · rw [hc, List.append_assoc]
              rfl
          · rw [decide_eq_false_iff_not] at hc0
            have n0 : n = 0 := by omega
            subst n0
            have i0 := hn.mp rfl
            subst i0
            refine ⟨ts, ws, rfl, e3.trans e4, e4 _ _ hp, e4 _ _ hb3, hw.ex e4, ?_⟩
            rw [if_pos rfl] at hc
            rw [hc]
            have ed0 : NM.spl1 10 t = line :: (NM.spl1 10 t).drop 1 := ed
            conv => lhs; rw [ed0]
            rfl
        · rintro σ4 H4 ⟨ts, ws, rfl, e4, hp4, hb4, hw4, hc4⟩
          have hwl4 := hw4.len
          have hcl4 : ws.length + (NM.wl n (NM.spl1 32 line)).length ≤ 2 * t.length + 1 := by
            have z := congrArg List.length hc4
            rw [List.length_append, List.length_append] at z
            omega
          have wlen : ∀ (l : List (List Nat)) (k : Nat), (NM.wl k l).length = l.length := by
            intro l
            induction l with
            | nil => intro k; rfl
            | cons a l ih => intro k; exact congrArg Nat.succ (ih _)
          refine s_forNL (xs := vstrs (NM.spl1 32 line)) (g := gName 4) (el_split (c := 32) (ev_var rfl) (ev_is ev_c (by rw [s_blank])) (by decide) (by omega))
            (fun q j σ' H' => ∃ (m : Nat) (ts' : List Addr) (v4 : Option V), σ' = [some (.str (S t)), some (.ref b), some (.int (m : Int)), some (.str (S line)), v4] ∧ Ex H H' ∧ H' p = some (.lst (vstrs (NM.spl1 10 t))) ∧ H' q = some (.lst (vstrs (NM.spl1 32 line))) ∧ H' b = some (.lst (vrefs ts')) ∧
              WTups H' ts' (ws ++ NM.wl n ((NM.spl1 32 line).take j)) ∧ b ≠ q ∧ m = NM.wlEnd n ((NM.spl1 32 line).take j))
            (fun q H5 nq e5 hq => ⟨n, ts, v4, rfl, e4.trans e5, e5 _ _ hp4, hq, e5 _ _ hb4, (by rw [List.take_zero]; show WTups H5 ts (ws ++ []); rw [List.append_nil]; exact hw4.ex e5), fun z => (by rw [z, nq] at hb4; cases hb4), rfl⟩)
            (fun q j σ' H' _ ⟨_, _, _, _, _, _, h1, _⟩ => sq_of h1) ?_ ?_
          · rintro q j x σ' H' hj ⟨m, ts', v4', rfl, e5, hp5, hq5, hb5, hw5, nbq, hm⟩
            rw [vstrs, List.getElem?_map] at hj
            cases hlj : (NM.spl1 32 line)[j]? with
            | none => rw [hlj] at hj; cases hj
            | some wd =>
              rw [hlj] at hj
              have : x = .str (S wd) := (Option.some.inj hj).symm
              subst this
              have wdl := NM.spl1_wlen 32 line wd (List.mem_of_getElem? hlj)
              have jl := (List.getElem?_eq_some_iff.mp hlj).1
              have ts5 := hw5.len
              have tl5 : ts'.length ≤ 50000 := by
                rw [ts5, List.length_append, wlen, List.length_take]
                rw [wlen] at hcl4
                omega
              show tSeq _ _ _ [some (.str (S t)), some (.ref b), some (.int (m : Int)), some (.str (S line)), some (.str (S wd))] H'
              refine q_appU hb5 (ev_var rfl) (eu_tup (ea_two (ev_var rfl) (ev_var rfl)) (by simp)) (by rw [vrefs_len]; omega) fun a H6 na e6 ha => ?_
              have hb6 := e6 _ _ hb5
              refine s_aug (a := (m : Int)) (b := ((wd.length + 1 : Nat) : Int)) rfl (ev_is (ev_op (ev_lenS (ev_var rfl) (by omega)) ev_c rv_I0) (by congr 1)) fun H7 e7 => ?_
              refine ⟨m + (wd.length + 1), ts' ++ [a], some (.str (S wd)), ?_, (Ex.mut (e5.trans e6) nb).trans e7, ?_, ?_, ?_, ?_, nbq, ?_⟩
              · show [_, _, _, _, _] = [_, _, _, _, _]
                congr 3
              · refine e7 _ _ ?_
                rw [upd_ne (Ne.symm nbp)]
                exact e6 _ _ hp5
              · refine e7 _ _ ?_
                rw [upd_ne (Ne.symm nbq)]
                exact e6 _ _ hq5
              · refine e7 _ _ ?_
                rw [upd_same, vrefs, vrefs, List.map_append]
                rfl
              · rw [NM.take_snoc hlj, NM.wl_snoc, ← List.append_assoc, ← hm]
                exact (WTups.snoc (w := (m, wd)) (tup_upd hb6 ha) (WTups.keep (fun _ _ h => tup_upd hb6 h) (hw5.ex e6))).ex e7
              · rw [NM.take_snoc hlj, NM.wlEnd_snoc, ← hm]
          · rintro q σ' H' ⟨m, ts', v4', rfl, e5, hp5, hq5, hb5, hw5, nbq, hm⟩
            have z : (vstrs (NM.spl1 32 line)).length = (NM.spl1 32 line).length := by simp [vstrs]
            rw [z, List.take_length] at hw5 hm
            rw [NM.wlEnd_line] at hm
            refine ⟨m, ts', ws ++ NM.wl n (NM.spl1 32 line), _, _, rfl, e5, hp5, hb5, hw5, nbp, ?_, ⟨fun z => by omega, fun z => by omega⟩, fun z => by omega⟩
            rw [if_neg (by omega), hc4, hm, List.append_assoc]
    · rintro p σ' H' ⟨n, ts, ws, v3, v4, rfl, e3, hp, hb3, hw, nbp, hc, hn, h0⟩
      refine s_ret (ev_var rfl) fun H4 e4 => ?_
      have z : (vstrs (NM.spl1 10 t)).length = (NM.spl1 10 t).length := by simp [vstrs]
      obtain ⟨w0, r0, hs0⟩ := NM.spl1_cons 10 t
      rw [z, if_neg (by rw [hs0]; simp), List.drop_length] at hc
      have hc : VbenCore.cut 0 t = ws := by rw [hc]; exact List.append_nil _
      rw [hc] at ret
      exact ret b H4 nb (e3.trans e4) ⟨ts, e4 _ _ hb3, hw.ex e4⟩
end
end N
set_option Elab.async false
set_option linter.all false
set_option maxRecDepth 100000
set_option maxHeartbeats 4000000
namespace N
open PySem PySem.Spec PyProof.Rows L2 Evl
open NM (vI FOk)
open VbenCore (Word)
/-- the attributes of a text's words: where the list lies, the text's length, how many are passed -/
def fW (lw : Addr) (n k : Nat) : List (Str × V) := [("words", .ref lw), ("length", .int (n : Int)), ("passed", .int (k : Int))]
theorem fW_words {lw : Addr} {n k : Nat} : (fW lw n k).lookup ("words" : Str) = some (.ref lw) := lk_here
theorem fW_length {lw : Addr} {n k : Nat} : (fW lw n k).lookup ("length" : Str) = some (.int (n : Int)) := (lk_past (by decide +kernel)).trans lk_here
theorem fW_passed {lw : Addr} {n k : Nat} : (fW lw n k).lookup ("passed" : Str) = some (.int (k : Int)) := (lk_past (by decide +kernel)).trans ((lk_past (by decide +kernel)).trans lk_here)
theorem fW_no {m : Str} {lw : Addr} {n k : Nat} (h : (["words", "length", "passed"] : List Str).all (fun g => !(m == g)) = true) : (fW lw n k).lookup m = none := by
  simp only [List.all_cons, List.all_nil, Bool.and_true, Bool.and_eq_true, Bool.not_eq_true'] at h
  obtain ⟨h1, h2, h3⟩ := h
  exact (lk_past h1).trans ((lk_past h2).trans ((lk_past h3).trans lk_nil))
theorem fW_put {lw : Addr} {n k j : Nat} : putF "passed" (.int (j : Int)) (fW lw n k) = fW lw n j := (put_past (by decide +kernel)).trans (congrArg _ ((put_past (by decide +kernel)).trans (congrArg _ put_here)))
/-- the words that are left of a text of n bytes -/
structure WAt (CW : Addr) (H : Hp) (a lw : Addr) (n : Nat) (r : List Word) : Prop where
  ex : ∃ (dx : Addr) (ts : List Addr) (ws : List Word) (k : Nat), H a = some (.ins CW dx (fW lw n k)) ∧ H lw = some (.lst (vrefs ts)) ∧ WTups H ts ws ∧ r = ws.drop k ∧ k ≤ ws.length ∧ ws.length ≤ 5000 ∧ ∀ w ∈ ws, (∀ c ∈ w.2, NM.sg c = c) ∧ w.2.length ≤ 5000
theorem WAt.ex' {CW : Addr} {H H' : Hp} {a lw : Addr} {n : Nat} {r : List Word} (h : WAt CW H a lw n r) (e : Ex H H') : WAt CW H' a lw n r := by
  obtain ⟨dx, ts, ws, k, h1, h2, h3, h4⟩ := h.ex
  exact ⟨dx, ts, ws, k, e _ _ h1, e _ _ h2, h3.ex e, h4⟩
theorem WAt.plain {CW : Addr} {H : Hp} {a lw : Addr} {n : Nat} {r : List Word} (h : WAt CW H a lw n r) : ∀ w ∈ r, (∀ c ∈ w.2, NM.sg c = c) ∧ w.2.length ≤ 5000 := by
  obtain ⟨dx, ts, ws, k, h1, h2, h3, h4, h5, h6, h7⟩ := h.ex
  subst h4
  exact fun w hw => h7 w (List.mem_of_mem_drop hw)
theorem WAt.ins {CW : Addr} {H : Hp} {a lw : Addr} {n : Nat} {r : List Word} (h : WAt CW H a lw n r) : ∃ dx k, H a = some (.ins CW dx (fW lw n k)) := by
  obtain ⟨dx, ts, ws, k, h1, _⟩ := h.ex
  exact ⟨dx, k, h1⟩
theorem WAt.lst {CW : Addr} {H : Hp} {a lw : Addr} {n : Nat} {r : List Word} (h : WAt CW H a lw n r) : ∃ xs, H lw = some (.lst xs) := by
  obtain ⟨dx, ts, ws, k, h1, h2, _⟩ := h.ex
  exact ⟨_, h2⟩
/-- another list changes -/
theorem WAt.upd {CW : Addr} {H : Hp} {a lw b : Addr} {n : Nat} {r : List Word} {xs ys : List V} (h : WAt CW H a lw n r) (hb : H b = some (.lst xs)) (n1 : lw ≠ b) : WAt CW (L2.upd H b (.lst ys)) a lw n r := by
  obtain ⟨dx, ts, ws, k, h1, h2, h3, h4⟩ := h.ex
  refine ⟨dx, ts, ws, k, ?_, ?_, WTups.keep (fun _ _ q => tup_upd hb q) h3, h4⟩
  · rw [upd_ne (ne_of h1 hb (by intro z; cases z))]
    exact h1
  · rw [upd_ne n1]
    exact h2
def hd (r : List Word) : List Nat := match r with
  | [] => []
  | w :: _ => w.2
/-- what the top says of the class -/
structure TxtW (K : PySem.W.Frag) (mg : Str → Option Value) (CW : Addr) : Prop where
  cW : Cls K CW
  nWords : NoAttr K CW "words"
  nLength : NoAttr K CW "length"
  nPassed : NoAttr K CW "passed"
  len : mg "len" = none
  range : mg "range" = none
  str : mg "str" = none
  int : mg "int" = none
section
variable {P : Program} {w : World} {K : PySem.W.Frag} {mg : Str → Option Value} {base : Heap} {CW : Addr}
-- def ended(self):
--     return self.passed == len(self.words)
-- slots 0:self
abbrev sWords_ended : Stmt := inClass (top 28) 1
theorem scWords_ended : FnScope ["self"] ["self"] (defScope sWords_ended) := ⟨rfl, rfl, rfl, by decide +kernel, rfl, by decide +kernel, by decide +kernel⟩
def spW_ended (CW : Addr) : Sp := pV fun vs H v => ∃ (a lw : Addr) (n : Nat) (r : List Word), vs = [.ref a] ∧ WAt CW H a lw n r ∧ v = .bl r.isEmpty
theorem okW_ended {f : Addr} {fd : FuncData} (F : Fun K "ended" "Words.ended" sWords_ended f fd) (T : TxtW K mg CW) : FnOk P w K mg base CX0 1 f fd ["self"] (spW_ended CW) := by
  refine F.ok scWords_ended (fun vs H Q E h => ?_) (fun cdv A outer s H vs Q E hr h => ?_)
  · obtain ⟨v, ⟨a, lw, n, r, rfl, _⟩, _⟩ := h
    rfl
  · obtain ⟨v, ⟨a, lw, n, r, rfl, ⟨dx, ts, ws, k, h1, h2, h3, rfl, h5, h6⟩, rfl⟩, ret⟩ := h
    refine ⟨_, (pss_one (ps_ret (pe_cmpR op_eq (pfld K (pv 0)) (plen K T.len (pfld K (pv 0))) (nomark _)))), ?_⟩
    refine s_ret (ev_is (ev_op (ev_fld (ev_var rfl) h1 T.cW T.nPassed fW_passed) (ev_lenE (ev_fld (ev_var rfl) h1 T.cW T.nWords fW_words) h2 (n := (ws.length : Int)) (by rw [vrefs_len, h3.len])) (rv_eq rfl)) ?_) ret
    congr 1
    rw [Bool.eq_iff_iff, decide_eq_true_eq, List.isEmpty_iff, V.int.injEq, List.drop_eq_nil_iff]
    omega
-- def word(self):
--     if self.ended():
--         return ''
--     return self.words[self.passed][0]
-- slots 0:self
abbrev sWords_word : Stmt := inClass (top 28) 2
theorem scWords_word : FnScope ["self"] ["self"] (defScope sWords_word) := ⟨rfl, rfl, rfl, by decide +kernel, rfl, by decide +kernel, by decide +kernel⟩
def spW_word (CW : Addr) : Sp := pV fun vs H v => ∃ (a lw : Addr) (n : Nat) (r : List Word), vs = [.ref a] ∧ WAt CW H a lw n r ∧ v = .str (S (hd r))
theorem okW_word {f : Addr} {fd : FuncData} (F : Fun K "word" "Words.word" sWords_word f fd) (T : TxtW K mg CW) (m_Words_ended : Met P w K mg base CX0 1 CW "ended" (spW_ended CW)) : FnOk P w K mg base CX0 2 f fd ["self"] (spW_word CW) := by
  refine F.ok scWords_word (fun vs H Q E h => ?_) (fun cdv A outer s H vs Q E hr h => ?_)
  · obtain ⟨v, ⟨a, lw, n, r, rfl, _⟩, _⟩ := h
    rfl
  · obtain ⟨v, ⟨a, lw, n, r, rfl, hW, rfl⟩, ret⟩ := h
    obtain ⟨dx, ts, ws, k, h1, h2, h3, hr', h5, h6⟩ := hW.ex
    refine ⟨_, (pss_cons (ps_if (pt_val (pmt0 m_Words_ended hr (by decide) (pv 0)))
        (pss_one (ps_ret pe_str))
        pss_nil)
      (pss_one (ps_ret (pixt K (pix K (pfld K (pv 0)) (pfld K (pv 0))) pe_int)))), ?_⟩
    refine q_when (et_B (ev_mth (ev_var rfl) h1 (fW_no (by decide +kernel)) ea_nil (pV.sp fun H2 e2 => ⟨a, lw, n, r, rfl, hW.ex' e2, rfl⟩))) (fun hc H1 e1 => ?_) (fun hc H1 e1 => ?_)
    · rw [List.isEmpty_iff] at hc
      subst hc
      refine s_ret ev_c fun H2 e2 => ?_
      rw [s_empty]
      exact ret H2 (e1.trans e2)
    · cases r with
      | nil => cases hc
      | cons wd r' =>
        have hk : ws[k]? = some wd := by
          have z := congrArg List.head? hr'
          rw [List.head?_drop] at z
          exact z.symm
        obtain ⟨t, ht, htt⟩ := h3.get hk
        exact s_ret (ev_op (ev_op (ev_fld (ev_var rfl) (e1 _ _ h1) T.cW T.nWords fW_words) (ev_fld (ev_var rfl) (e1 _ _ h1) T.cW T.nPassed fW_passed) (rv_ixL (sq_of (e1 _ _ h2)) (atI_nat (by rw [vrefs, List.getElem?_map, ht]; rfl)))) ev_c (rv_ixT (st_of (e1 _ _ htt)) rfl)) fun H2 e2 => ret H2 (e1.trans e2)
-- def take(self, may_stand):
--     word = self.word()
--     if not may_stand:
--         raise Fault(self.length if self.ended() else self.words[self.passed][1])
--     self.passed += 1
--     return word
-- slots 0:self 1:may_stand 2:word
abbrev sWords_take : Stmt := inClass (top 28) 3
theorem scWords_take : FnScope ["self", "may_stand", "word"] ["self", "may_stand"] (defScope sWords_take) := ⟨rfl, rfl, rfl, by decide +kernel, rfl, by decide +kernel, by decide +kernel⟩
/-- a word passed, or a fault at its place -/
def spW_take (CW CFa : Addr) : Sp := fun vs H Q E => ∃ (a lw : Addr) (b : Bool) (n : Nat) (r : List Word), vs = [.ref a, .bl b] ∧ WAt CW H a lw n r ∧ (b = true → r ≠ []) ∧
  (b = true → ∀ H', ExB a H H' → WAt CW H' a lw n r.tail → Q (.str (S (hd r))) H') ∧
  (b = false → ∀ d H', H d = none → Ex H H' → H' d = some (.xd (fFault (VbenCore.placeOf n r : Int))) → E (.ref CFa) (some d) H')
theorem okW_take {f CFa : Addr} {fd : FuncData} (F : Fun K "take" "Words.take" sWords_take f fd) (T : TxtW K mg CW) (m_Words_ended : Met P w K mg base CX0 1 CW "ended" (spW_ended CW)) (m_Words_word : Met P w K mg base CX0 2 CW "word" (spW_word CW)) (x_Fault : Er P w K mg base 2 "Fault" CFa (spE1 K fFault)) :
    FnOk P w K mg base (L2.CX P w) 4 f fd ["self", "may_stand"] (spW_take CW CFa) := by
  refine F.okX scWords_take (fun vs H Q E h => ?_) (fun cdv A outer s H vs Q E hr h => ?_)
  · obtain ⟨a, lw, b, n, r, rfl, _⟩ := h
    rfl
  · obtain ⟨a, lw, b, n, r, rfl, hW, hne, hq, he⟩ := h
    obtain ⟨dx, ts, ws, k, h1, h2, h3, hr', h5, h6⟩ := hW.ex
    obtain ⟨fI, fdI, psI, TF, _⟩ := id x_Fault.ex
    refine ⟨_, (pss_cons (ps_set (i := 2) scWords_take.nd rfl (Or.inl rfl) (pmt0 m_Words_word hr (by decide) (pv 0)))
      (pss_cons (ps_if (pt_not (pt_val (pv 1)))
        (pss_one (psr x_Fault (takes_of rfl rfl rfl rfl) hr (by decide) (by rfl) (pa_cons (pe_ifExp (pt_val (pmt0 m_Words_ended hr (by decide) (pv 0))) (pfld K (pv 0)) (pixt K (pix K (pfld K (pv 0)) (pfld K (pv 0))) pe_int)) pa_nil)))
        pss_nil)
      (pss_cons (psfldaug K (pv 0) pe_int in_add)
      (pss_one (ps_ret (pv 2)))))), ?_⟩
    refine q_asg (ev_mth (ev_var rfl) h1 (fW_no (by decide +kernel)) ea_nil (pV.sp fun H2 e2 => ⟨a, lw, n, r, rfl, hW.ex' e2, rfl⟩)) fun H1 e1 => ?_
    refine q_when (et_not (et_B (ev_var rfl))) (fun hc H2 e2 => ?_) (fun hc H2 e2 => ?_)
    · have hb : b = false := by simpa using hc
      subst hb
      have e12 := e1.trans e2
      refine raise_E1 TF (n := (VbenCore.placeOf n r : Int)) (ea_one (ev_if (et_B (ev_mth (ev_var rfl) (e12 _ _ h1) (fW_no (by decide +kernel)) ea_nil (pV.sp fun H3 e3 => ⟨a, lw, n, r, rfl, (hW.ex' e12).ex' e3, rfl⟩))) (fun hc => ?_) (fun hc => ?_))) fun d H3 hd e3 hx => he rfl d H3 (fresh_back e12 hd) (e12.trans e3) hx
      · rw [List.isEmpty_iff] at hc
        subst hc
        exact ev_fld (ev_var rfl) (e12 _ _ h1) T.cW T.nLength fW_length
      · cases r with
        | nil => cases hc
        | cons wd r' =>
          have hk : ws[k]? = some wd := by
            have z := congrArg List.head? hr'
            rw [List.head?_drop] at z
            exact z.symm
          obtain ⟨t, ht, htt⟩ := h3.get hk
          exact ev_op (ev_op (ev_fld (ev_var rfl) (e12 _ _ h1) T.cW T.nWords fW_words) (ev_fld (ev_var rfl) (e12 _ _ h1) T.cW T.nPassed fW_passed) (rv_ixL (sq_of (e12 _ _ h2)) (atI_nat (by rw [vrefs, List.getElem?_map, ht]; rfl)))) ev_c (rv_ixT (st_of (e12 _ _ htt)) rfl)
    · have hb : b = true := by simpa using hc
      subst hb
      have e12 := e1.trans e2
      refine ⟨_, rfl, a, CW, dx, _, _, rfl, e12 _ _ h1, T.cW, T.nPassed, fW_passed, _, _, rfl, rfl, dx, _, e12 _ _ h1, Nat.le_of_ble_eq_true rfl, ?_⟩
      have ep : putF ("passed" : Str) (.int ((k : Int) + 1)) (fW lw n k) = fW lw n (k + 1) := fW_put
      rw [ep]
      have hlw : lw ≠ a := ne_of h2 h1 (by intro z; cases z)
      refine s_ret (ev_var rfl) fun H3 e3 => hq rfl H3 (((ExB.of e12).trans (ExB.upd _ _ _)).trans (ExB.of e3)) ?_
      have nr := hne rfl
      have kl : k + 1 ≤ ws.length := by
        by_cases z : k < ws.length
        · exact z
        · rw [hr', List.drop_eq_nil_iff.mpr (by omega)] at nr
          exact absurd rfl nr
      refine ⟨dx, ts, ws, k + 1, e3 _ _ upd_same, e3 _ _ ?_, (WTups.keep (fun b xs q => ?_) (h3.ex e12)).ex e3, ?_, kl, h6⟩
      · rw [upd_ne hlw]
        exact e12 _ _ h2
      · rw [upd_ne (ne_of q (e12 _ _ h1) (by intro z; cases z))]
        exact q
      · rw [hr', List.tail_drop]
end
end N
set_option Elab.async false
set_option linter.all false
set_option maxRecDepth 100000
set_option maxHeartbeats 4000000
namespace NM
open VbenCore Vbenaf
/-! ### numbers of one digit -/
theorem valueOf_ge : ∀ (l : List Nat) (v : Nat), v ≤ VbenCore.valueOf 10 (v :: l) := by
  intro l v
  unfold VbenCore.valueOf
  rw [List.foldl_cons]
  have key : ∀ (l : List Nat) (a : Nat), a ≤ l.foldl (fun v d => v * 10 + d) a := by
    intro l
    induction l with
    | nil => intro a; exact Nat.le_refl _
    | cons x l ih =>
      intro a
      rw [List.foldl_cons]
      exact Nat.le_trans (by omega) (ih _)
  have z := key l (0 * 10 + v)
  simp only [Nat.zero_mul, Nat.zero_add] at z ⊢
  exact z
theorem fold_ten : ∀ (l : List Nat) (a : Nat), 1 ≤ a → l ≠ [] → 10 ≤ l.foldl (fun v d => v * 10 + d) a := by
  have key : ∀ (l : List Nat) (a : Nat), a ≤ l.foldl (fun v d => v * 10 + d) a := by
    intro l
    induction l with
    | nil => intro a; exact Nat.le_refl _
    | cons x l ih =>
      intro a
      rw [List.foldl_cons]
      exact Nat.le_trans (by omega) (ih _)
  intro l a ha hl
  cases l with
  | nil => exact absurd rfl hl
  | cons x l =>
    rw [List.foldl_cons]
    exact Nat.le_trans (by omega) (key l _)
theorem natOf_one {n : Nat} (h : n < 10) : natOf [48 + n] = some n := by
  have : n = 0 ∨ n = 1 ∨ n = 2 ∨ n = 3 ∨ n = 4 ∨ n = 5 ∨ n = 6 ∨ n = 7 ∨ n = 8 ∨ n = 9 := by omega
  rcases this with rfl | rfl | rfl | rfl | rfl | rfl | rfl | rfl | rfl | rfl <;> decide +kernel
theorem natOf_small {w : Bytes} {n : Nat} (h : natOf w = some n) (hn : n < 10) : w = [48 + n] := by
  unfold natOf at h
  split at h
  · cases h
  · rename_i hc
    have h := Option.some.inj h
    simp only [not_or, Bool.not_eq_true, Bool.not_eq_false] at hc
    obtain ⟨h1, h2, h3, h4⟩ := hc
    cases w with
    | nil => cases h1
    | cons c r =>
      rw [List.all_cons, Bool.and_eq_true] at h3
      have hd := h3.1
      unfold isDigit at hd
      rw [Bool.and_eq_true, decide_eq_true_eq, decide_eq_true_eq] at hd
      cases r with
      | nil =>
        have e : VbenCore.valueOf 10 [c - 48] = n := h
        unfold VbenCore.valueOf at e
        simp only [List.foldl_cons, List.foldl_nil, Nat.zero_mul, Nat.zero_add] at e
        rw [show c = 48 + n by omega]
      | cons d r =>
        exfalso
        have hz : c ≠ 48 := by
          intro z
          subst z
          unfold isZeroLed at h4
          simp at h4
        have e : VbenCore.valueOf 10 ((c :: d :: r).map fun c => c - 48) = n := h
        unfold VbenCore.valueOf at e
        rw [List.map_cons, List.foldl_cons] at e
        have z := fold_ten ((d :: r).map fun c => c - 48) (0 * 10 + (c - 48)) (by omega) (by simp)
        omega
/-- the program's test of a number: it is one of these texts -/
theorem num_in {w : Bytes} {lo hi : Nat} (hh : hi ≤ 9) : (∃ n, lo ≤ n ∧ n ≤ hi ∧ w = TL.numL n) ↔ ∃ n, natOf w = some n ∧ lo ≤ n ∧ n ≤ hi := by
  constructor
  · rintro ⟨n, h1, h2, rfl⟩
    rw [TL.numL_lt (by omega)]
    exact ⟨n, natOf_one (by omega), h1, h2⟩
  · rintro ⟨n, h, h1, h2⟩
    refine ⟨n, h1, h2, ?_⟩
    rw [TL.numL_lt (by omega), natOf_small h (by omega)]
/-! ### names -/
theorem alpha_sg {c : Nat} (h : sg c = c) : PySem.Unicode.isAlpha c = isLetter c := by
  have hc : c < 123 := by
    unfold sg at h
    repeat' split at h
    all_goals omega
  have key : (List.range 123).all (fun c => !decide (sg c = c) || PySem.Unicode.isAlpha c == isLetter c) = true := by decide +kernel
  rw [List.all_eq_true] at key
  have z := key c (List.mem_range.mpr hc)
  rw [decide_eq_true h] at z
  simpa using z
end NM
namespace N
open PySem PySem.Spec PyProof.Rows L2 Evl
theorem isalpha_sg {w : List Nat} (h : ∀ c ∈ w, NM.sg c = c) : Txt.isalpha (S w) = (decide (1 ≤ w.length) && w.all VbenCore.isLetter) := by
  unfold Txt.isalpha
  have e1 : (decide ((S w).length > 0)) = decide (1 ≤ w.length) := by rw [SX.S_len]; rfl
  have e2 : (S w).cps.all PySem.Unicode.isAlpha = w.all VbenCore.isLetter := by
    rw [← Array.all_toList]
    show w.all PySem.Unicode.isAlpha = _
    rw [Bool.eq_iff_iff, List.all_eq_true, List.all_eq_true]
    exact ⟨fun k c hc => by rw [← NM.alpha_sg (h c hc)]; exact k c hc, fun k c hc => by rw [NM.alpha_sg (h c hc)]; exact k c hc⟩
  rw [e1, e2]
end N
set_option Elab.async false
set_option linter.all false
set_option maxRecDepth 100000
set_option maxHeartbeats 4000000
namespace N
open PySem PySem.Spec PyProof.Rows L2 Evl
open NM (vI FOk)
open VbenCore (Word placeOf must natOf isName)
open Vbenaf (numIn valueIn namesIn)
/-- what the top says of the names of the readers -/
structure TxtR (mg : Str → Option Value) : Prop where
  len : mg "len" = none
  range : mg "range" = none
  str : mg "str" = none
  int : mg "int" = none
  LINE_END : gs mg "LINE_END" "\n"
  LONGEST_NAME : gi mg "LONGEST_NAME" 12
  MOST_HOLES : gi mg "MOST_HOLES" 6
  MOST_VALUES : gi mg "MOST_VALUES" 8
  MOST_LETS : gi mg "MOST_LETS" 30
  NO_VALUE : gi mg "NO_VALUE" (-1)
theorem ev_isalpha {σ : L2.St} {H : Hp} {to : TE} {w : List Nat} (ho : Ev to σ H (.str (S w))) (h : ∀ c ∈ w, NM.sg c = c) : Ev (tM0 rIsalpha to) σ H (.bl (decide (1 ≤ w.length) && w.all VbenCore.isLetter)) :=
  fun H1 e1 Q k => ho H1 e1 _ fun H2 e2 => ⟨⟨_, rfl⟩, S w, rfl, rfl, trivial, by rw [isalpha_sg h]; exact k H2 e2⟩
/-- a fault at the place p: a is the text's words -/
def Flt (CFa a : Addr) (H : Hp) (E : XK) (p : Nat) : Prop := ∀ d H', H d = none → ExB a H H' → H' d = some (.xd (fFault (p : Int))) → E (.ref CFa) (some d) H'
theorem Flt.mono {CFa a : Addr} {H G : Hp} {E : XK} {p : Nat} {u : HO} (h : Flt CFa a H E p) (e : ExB a H G) (ga : G a = some u) : Flt CFa a G E p :=
  fun d H' nd e' hx => h d H' (e.none ga nd) (e.trans e') hx
/-- what a step of the reading hands back -/
def Rd {α : Type} (CW CFa a lw : Addr) (n : Nat) (H : Hp) (Q : VK) (E : XK) (enc : α → V) : Except Nat (α × List Word) → Prop
  | .ok (v, r) => ∀ H', ExB a H H' → WAt CW H' a lw n r → Q (enc v) H'
  | .error p => Flt CFa a H E p
theorem ofS (s : String) : Str.ofString s = S (VbenCore.bytesOf s) := Str.ofString_eq_toList s
theorem bl_word (w : List Nat) (s : String) : V.bl (decide (V.str (S w) = V.str (Str.ofString s))) = .bl (decide (w = Vbenaf.W s)) := by
  congr 1
  rw [ofS, Bool.eq_iff_iff, decide_eq_true_eq, decide_eq_true_eq, V.str.injEq]
  exact ⟨fun h => SX.S_inj h, fun h => by rw [h]; rfl⟩
theorem bl_wordN (w : List Nat) (s : String) : V.bl (!decide (V.str (S w) = V.str (Str.ofString s))) = .bl (!decide (w = Vbenaf.W s)) := by
  have z := bl_word w s
  rw [V.bl.injEq] at z
  rw [z]
/-! ### the specification's steps by the word ahead -/
theorem must_hd {n : Nat} {b : List Nat} (hb : b ≠ []) (r : List Word) : must n b r = if hd r = b then .ok r.tail else .error (placeOf n r) := by
  cases r with
  | nil => rw [if_neg (fun h => hb h.symm)]; rfl
  | cons w r =>
    show (if w.2 = b then _ else _) = if w.2 = b then _ else _
    rfl
theorem natOf_nil : natOf [] = none := by decide +kernel
theorem numIn_hd (n lo hi : Nat) (r : List Word) : numIn n lo hi r = match natOf (hd r) with
  | some v => if lo ≤ v ∧ v ≤ hi then .ok (v, r.tail) else .error (placeOf n r)
  | none => .error (placeOf n r) := by
  cases r with
  | nil =>
    rw [show hd ([] : List Word) = [] from rfl, natOf_nil]
    rfl
  | cons w r => rfl
theorem valueIn_hd {f : Vbenaf.Field} (hf : ∀ x ∈ f.values, isName x = true) (n : Nat) (r : List Word) : valueIn f n r = match f.values.findIdx? (fun x => x == hd r) with
  | some i => .ok (i, r.tail)
  | none => .error (placeOf n r) := by
  cases r with
  | nil =>
    have e : f.values.findIdx? (fun x => x == hd []) = none := by
      rw [List.findIdx?_eq_none_iff]
      intro x hx
      have z := hf x hx
      cases x with
      | nil => revert z; decide +kernel
      | cons _ _ => rfl
    rw [e]
    rfl
  | cons w r => rfl
theorem inV_strs (w : List Nat) (l : List (List Nat)) : inV (.str (S w)) (vstrs l) = l.contains w := by
  unfold inV vstrs
  rw [List.any_map, Bool.eq_iff_iff, List.any_eq_true, List.contains_iff_mem]
  constructor
  · rintro ⟨y, hy, h⟩
    have h : (S y == S w) = true := h
    rw [beq_iff_eq] at h
    rw [← SX.S_inj h]
    exact hy
  · exact fun h => ⟨w, h, by show (S w == S w) = true; simp⟩
theorem flat_strs (l : List (List Nat)) : (vstrs l).all flatV = true := by
  unfold vstrs
  rw [List.all_map, List.all_eq_true]
  exact fun _ _ => rfl
section
variable {P : Program} {w : World} {K : PySem.W.Frag} {mg : Str → Option Value} {base : Heap} {CW CFa : Addr}
variable {σ : L2.St} {H : Hp} {Q : VK} {E : XK} {a lw : Addr} {n : Nat} {r : List Word}
theorem go_take {to tb : TE} {b : Bool} (hW : WAt CW H a lw n r) (ho : Ev to σ H (.ref a)) (hb : Ev tb σ H (.bl b)) (hne : b = true → r ≠ [])
    (hq : b = true → ∀ H', ExB a H H' → WAt CW H' a lw n r.tail → Q (.str (S (hd r))) H') (he : b = false → Flt CFa a H E (placeOf n r)) :
    tMthS CW "take" (spW_take CW CFa) (WE fun cls d _ H => E cls d H) to (tCons tb tNil) σ H Q := by
  obtain ⟨dx, k, h1⟩ := hW.ins
  refine ho H (Ex.refl _) _ fun H1 e1 => ⟨a, dx, _, rfl, e1 _ _ h1, fW_no (by decide +kernel), hb H1 e1 _ fun H2 e2 => ?_⟩
  have e12 := e1.trans e2
  exact ⟨a, lw, b, n, r, rfl, hW.ex' e12, hne, fun hb H' e3 hW' => hq hb H' ((ExB.of e12).trans e3) hW', fun hb d H' nd e3 hx => he hb d H' (fresh_back e12 nd) ((ExB.of e12).trans (ExB.of e3)) hx⟩
/-- the word ahead -/
theorem ev_word {to : TE} (hW : WAt CW H a lw n r) (ho : Ev to σ H (.ref a)) : Ev (tMeth CW "word" (spW_word CW) [] E0 to tNil) σ H (.str (S (hd r))) := by
  obtain ⟨dx, k, h1⟩ := hW.ins
  exact ev_mth ho h1 (fW_no (by decide +kernel)) ea_nil (pV.sp fun H2 e2 => ⟨a, lw, n, r, rfl, hW.ex' e2, rfl⟩)
theorem ev_ended {to : TE} (hW : WAt CW H a lw n r) (ho : Ev to σ H (.ref a)) : Ev (tMeth CW "ended" (spW_ended CW) [] E0 to tNil) σ H (.bl r.isEmpty) := by
  obtain ⟨dx, k, h1⟩ := hW.ins
  exact ev_mth ho h1 (fW_no (by decide +kernel)) ea_nil (pV.sp fun H2 e2 => ⟨a, lw, n, r, rfl, hW.ex' e2, rfl⟩)
theorem hd_ne {b : List Nat} (hb : b ≠ []) (h : hd r = b) : r ≠ [] := fun z => by
  rw [z] at h
  exact hb h.symm
-- def may_be_name(word):
--     return word.isalpha() and len(word) <= LONGEST_NAME and (word != 'is')
-- slots 0:word
abbrev smay_be_name : Stmt := top 31
theorem scmay_be_name : FnScope ["word"] ["word"] (defScope smay_be_name) := ⟨rfl, rfl, rfl, by decide +kernel, rfl, by decide +kernel, by decide +kernel⟩
def sp_name : Sp := pV fun vs H v => ∃ wd : List Nat, vs = [.str (S wd)] ∧ (∀ c ∈ wd, NM.sg c = c) ∧ wd.length ≤ 5000 ∧ v = .bl (isName wd && decide (wd ≠ Vbenaf.W "is"))
theorem ok_may_be_name {f : Addr} {fd : FuncData} (F : Fun K "may_be_name" "may_be_name" smay_be_name f fd) (T : TxtR mg) : FnOk P w K mg base CX0 1 f fd ["word"] sp_name := by
  refine F.ok scmay_be_name (fun vs H Q E h => ?_) (fun cdv A outer s H vs Q E hr h => ?_)
  · obtain ⟨v, ⟨wd, rfl, _⟩, _⟩ := h
    rfl
  · obtain ⟨v, ⟨wd, rfl, hs, hl, rfl⟩, ret⟩ := h
    refine ⟨_, (pss_one (ps_ret (pe_and (pisalpha (pv 0)) (pe_and (pe_cmpR op_le (plenS T.len (pv 0)) (pgi T.LONGEST_NAME) (nomark _)) (pe_one (pe_cmpR op_ne (pv 0) pe_str (nomark _))))))), ?_⟩
    refine s_ret (ev_is (ev_andV (a := decide (1 ≤ wd.length) && wd.all VbenCore.isLetter) (ev_isalpha (ev_var rfl) hs) fun _ => ev_andV (ev_op (ev_lenS (ev_var rfl) (by omega)) ev_c rv_I0) fun _ => ev_is (ev_op (ev_var rfl) ev_c (rv_ne rfl)) (bl_wordN _ _)) ?_) ret
    unfold isName
    congr 1
    rw [Bool.eq_iff_iff]
    simp only [Bool.and_eq_true, decide_eq_true_eq, Bool.not_eq_true', decide_eq_false_iff_not]
    constructor
    · rintro ⟨⟨h1, h2⟩, h3, h4⟩
      exact ⟨⟨h1, by omega, h2⟩, h4⟩
    · rintro ⟨⟨h1, h3, h2⟩, h4⟩
      exact ⟨⟨h1, h2⟩, by omega, h4⟩
-- def take_number(words, least, greatest):
--     return int(words.take(words.word() in [str(number) for number in range(least, greatest + 1)]))
-- slots 0:words 1:least 2:greatest 3:number
abbrev stake_number : Stmt := top 29
theorem sctake_number : FnScope ["words", "least", "greatest", "number"] ["words", "least", "greatest"] (defScope stake_number) := ⟨rfl, rfl, rfl, by decide +kernel, rfl, by decide +kernel, by decide +kernel⟩
def sp_take_number (CW CFa : Addr) : Sp := fun vs H Q E => ∃ (a lw : Addr) (n lo hi : Nat) (r : List Word), vs = [.ref a, .int (lo : Int), .int (hi : Int)] ∧ WAt CW H a lw n r ∧ hi ≤ 9 ∧ lo ≤ 100 ∧ Rd CW CFa a lw n H Q E (fun (v : Nat) => .int (v : Int)) (numIn n lo hi r)
theorem ok_take_number {f : Addr} {fd : FuncData} (F : Fun K "take_number" "take_number" stake_number f fd) (T : TxtR mg) (m_Words_word : Met P w K mg base CX0 2 CW "word" (spW_word CW)) (m_Words_take : Met P w K mg base (L2.CX P w) 4 CW "take" (spW_take CW CFa)) : FnOk P w K mg base (L2.CX P w) 5 f fd ["words", "least", "greatest"] (sp_take_number CW CFa) := by
  refine F.okX sctake_number (fun vs H Q E h => ?_) (fun cdv A outer s H vs Q E hr h => ?_)
  · obtain ⟨a, lw, n, lo, hi, r, rfl, _⟩ := h
    rfl
  · obtain ⟨a, lw, n, lo, hi, r, rfl, hW, hh, hlo, hR⟩ := h
    refine ⟨_, (pss_one (ps_ret (pintS T.int (pmtS m_Words_take hr (by decide) (takes_of rfl rfl rfl rfl) (pv 0) (pa_cons (qin K (pmt0 m_Words_word hr (by decide) (pv 0)) (pe_lc (own := [("number", 3)]) (g := (gName 3)) (by rfl) sctake_number.nd (pi_range2 (by rfl) T.range (pa_cons (pv 1) (pa_cons (pe_op op_add (pv 2) pe_int) pa_nil))) (blkOk_by (own := [("number", 3)]) (N := ["words", "least", "greatest", "number"]) (sc := defScope stake_number) (by decide +kernel)) (fun _ _ _ _ _ => (pg_name (i := 3) sctake_number.nd rfl (Or.inl rfl))) (fun _ _ _ _ _ => pts_nil) (fun _ _ _ _ _ => (pstr T.str (pv 3))))) pa_nil))))), ?_⟩
    have el : EvL (tLc (iRng2 (tCons (tVar 1) (tCons (tOp (rI0 fun i j => .int (i + j)) (tVar 2) (tC (.int 1))) tNil))) (gName 3) tYes (tCB rStrI (tCons (tVar 3) tNil)) [3]) (L2.start ["words", "least", "greatest", "number"] [.ref a, .int (lo : Int), .int (hi : Int)]) H
        ((((List.range (hi + 1 - lo)).map fun i => lo + i).filter fun _ => true).map fun i => .str (S (TL.numL i))) :=
      el_lcR2m (lo := lo) (hi := hi + 1) (g := fun _ => true) (v := fun i => .str (S (TL.numL i))) (ea_two (ev_var rfl) (ev_is (ev_op (ev_var rfl) ev_c rv_I0) (by congr 1))) (by omega) (by omega) (fun x => rfl) (fun i H1 e1 _ _ => fun H2 e2 Q k => k H2 (Ex.refl _)) fun i H1 e1 _ hi' _ => ev_strI (ev_var rfl) (by omega)
    have em : inV (.str (S (hd r))) ((((List.range (hi + 1 - lo)).map fun i => lo + i).filter fun _ => true).map fun i => .str (S (TL.numL i))) = decide (∃ v, natOf (hd r) = some v ∧ lo ≤ v ∧ v ≤ hi) := by
      rw [Bool.eq_iff_iff, decide_eq_true_eq, ← NM.num_in hh]
      unfold inV
      rw [List.any_map, List.any_eq_true]
      constructor
      · rintro ⟨i, hi', h⟩
        have h : (S (TL.numL i) == S (hd r)) = true := h
        rw [beq_iff_eq] at h
        rw [List.mem_filter, List.mem_map] at hi'
        obtain ⟨⟨j, hj, rfl⟩, _⟩ := hi'
        rw [List.mem_range] at hj
        exact ⟨lo + j, by omega, by omega, (SX.S_inj h).symm⟩
      · rintro ⟨i, h1, h2, h⟩
        refine ⟨i, ?_, ?_⟩
        · rw [List.mem_filter, List.mem_map]
          exact ⟨⟨i - lo, List.mem_range.mpr (by omega), by omega⟩, rfl⟩
        · show (S (TL.numL i) == S (hd r)) = true
          rw [h]
          simp
    have hf : ((((List.range (hi + 1 - lo)).map fun i => lo + i).filter fun _ => true).map fun i => V.str (S (TL.numL i))).all flatV = true := by
      rw [List.all_map, List.all_eq_true]
      exact fun _ _ => rfl
    rw [numIn_hd] at hR
    show tMthS CW "take" _ _ _ _ _ _ _
    refine go_take (b := decide (∃ v, natOf (hd r) = some v ∧ lo ≤ v ∧ v ≤ hi)) hW (ev_var rfl) (ev_is (ev_opVL (ev_word hW (ev_var rfl)) el fun q H2 hq e2 => rv_isL (sq_of hq) rfl hf) (by rw [em])) (fun hb z => ?_) (fun hb H' e1 hW' => ?_) (fun hb => ?_)
    · rw [decide_eq_true_eq] at hb
      obtain ⟨v, hv, _⟩ := hb
      rw [z] at hv
      have hv : natOf [] = some v := hv
      rw [natOf_nil] at hv
      cases hv
    · rw [decide_eq_true_eq] at hb
      obtain ⟨v, hv, h1, h2⟩ := hb
      rw [hv] at hR
      dsimp only at hR
      rw [if_pos ⟨h1, h2⟩] at hR
      have hw := NM.natOf_small hv (by omega)
      refine ⟨S (hd r), (v : Int), rfl, ?_, by rw [SX.S_len, hw]; exact Nat.le_of_ble_eq_true rfl, hR H' e1 hW'⟩
      rw [hw, ← TL.numL_lt (by omega : v < 10)]
      have z := TL.int_num (n := v) (by rw [TL.numL_lt (by omega)]; exact Nat.le_of_ble_eq_true rfl)
      have e : Str.ofString (toString ((v : Nat) : Int)) = S (TL.numL v) := SX.num_S v
      rw [e] at z
      exact z
    · rw [decide_eq_false_iff_not] at hb
      cases hv : natOf (hd r) with
      | none => rw [hv] at hR; exact hR
      | some v =>
        rw [hv] at hR
        dsimp only at hR
        rw [if_neg (fun z => hb ⟨v, hv, z⟩)] at hR
        exact hR
end
end N
set_option Elab.async false
set_option linter.all false
set_option maxRecDepth 100000
set_option maxHeartbeats 4000000
namespace N
open PySem PySem.Spec PyProof.Rows L2 Evl
open NM (vI FOk)
open VbenCore (Word placeOf must natOf isName)
open Vbenaf (numIn valueIn namesIn)
/-- the place of a text in a list of texts -/
theorem rc_index {K : PySem.W.Frag} {H : Hp} {p : Addr} {l : List (List Nat)} {w : List Nat} {i : Nat} (hl : H p = some (.lst (vstrs l))) (h : l.findIdx? (fun x => x == w) = some i) {Q : VK} (q : Q (.int (i : Int)) H) : tyV K "list" (.ref p) H ∧ rIndex K (.ref p) [.str (S w)] H Q := by
  rw [List.findIdx?_eq_some_iff_findIdx_eq] at h
  obtain ⟨hlt, hi⟩ := h
  have h1 : l[i]? = some w := by
    have z := List.findIdx_getElem (xs := l) (p := fun x => x == w) (w := by rw [hi]; exact hlt)
    rw [List.getElem?_eq_getElem hlt]
    have z2 : l[i] == w := by simpa only [hi] using z
    rw [beq_iff_eq] at z2
    rw [z2]
  refine ⟨.inl ⟨rfl, _, sq_of hl⟩, p, vstrs l, .str (S w), i, .str (S w), rfl, rfl, sq_of hl, rfl, flat_strs l, ?_, ?_, fun m z' hm hz => ?_, q⟩
  · rw [vstrs, List.getElem?_map, h1]
    rfl
  · show (S w == S w) = true
    simp
  · rw [vstrs, List.getElem?_map] at hz
    cases hx : l[m]? with
    | none => rw [hx] at hz; cases hz
    | some x =>
      rw [hx] at hz
      have : z' = .str (S x) := (Option.some.inj hz).symm
      subst this
      show (S x == S w) = false
      have nm := List.not_of_lt_findIdx (xs := l) (p := fun x => x == w) (i := m) (by rw [hi]; exact hm)
      have hml := (List.getElem?_eq_some_iff.mp hx)
      have nm2 : ¬ (x == w) = true := by
        rw [← hml.2]
        exact fun z => Bool.noConfusion (nm.symm.trans z)
      rw [← Bool.not_eq_true]
      intro c
      rw [beq_iff_eq] at c
      exact nm2 (by rw [SX.S_inj c]; simp)
theorem find_of_contains {l : List (List Nat)} {w : List Nat} (h : l.contains w = true) : ∃ i, l.findIdx? (fun x => x == w) = some i := by
  cases e : l.findIdx? (fun x => x == w) with
  | some i => exact ⟨i, rfl⟩
  | none =>
    rw [List.findIdx?_eq_none_iff] at e
    rw [List.contains_iff_mem] at h
    have z := e w h
    simp at z
theorem find_none {l : List (List Nat)} {w : List Nat} (h : l.contains w = false) : l.findIdx? (fun x => x == w) = none := by
  rw [List.findIdx?_eq_none_iff]
  intro x hx
  rw [← Bool.not_eq_true]
  intro c
  rw [beq_iff_eq] at c
  subst c
  have : l.contains x = true := List.contains_iff_mem.mpr hx
  rw [this] at h
  cases h
section
variable {P : Program} {w : World} {K : PySem.W.Frag} {mg : Str → Option Value} {base : Heap} {CW CFa : Addr}
-- def take_value(words, names):
--     return names.index(words.take(words.word() in names))
-- slots 0:words 1:names
abbrev stake_value : Stmt := top 30
theorem sctake_value : FnScope ["words", "names"] ["words", "names"] (defScope stake_value) := ⟨rfl, rfl, rfl, by decide +kernel, rfl, by decide +kernel, by decide +kernel⟩
def sp_take_value (CW CFa : Addr) : Sp := fun vs H Q E => ∃ (a lw nm : Addr) (n : Nat) (f : Fld) (r : List Word), vs = [.ref a, .ref nm] ∧ WAt CW H a lw n r ∧ H nm = some (.lst (vstrs f.values)) ∧ (∀ x ∈ f.values, isName x = true) ∧ Rd CW CFa a lw n H Q E (fun (v : Nat) => .int (v : Int)) (valueIn f n r)
theorem ok_take_value {f : Addr} {fd : FuncData} (F : Fun K "take_value" "take_value" stake_value f fd) (m_Words_word : Met P w K mg base CX0 2 CW "word" (spW_word CW)) (m_Words_take : Met P w K mg base (L2.CX P w) 4 CW "take" (spW_take CW CFa)) : FnOk P w K mg base (L2.CX P w) 5 f fd ["words", "names"] (sp_take_value CW CFa) := by
  refine F.okX sctake_value (fun vs H Q E h => ?_) (fun cdv A outer s H vs Q E hr h => ?_)
  · obtain ⟨a, lw, nm, n, fl, r, rfl, _⟩ := h
    rfl
  · obtain ⟨a, lw, nm, n, fl, r, rfl, hW, hn, hnm, hR⟩ := h
    refine ⟨_, (pss_one (ps_ret (pindex K (pv 1) (pmtS m_Words_take hr (by decide) (takes_of rfl rfl rfl rfl) (pv 0) (pa_cons (qin K (pmt0 m_Words_word hr (by decide) (pv 0)) (pv 1)) pa_nil))))), ?_⟩
    rw [valueIn_hd hnm] at hR
    obtain ⟨dx, k, ha⟩ := hW.ins
    have nna : nm ≠ a := ne_of hn ha (by intro z; cases z)
    refine ⟨_, rfl, .inl ⟨rfl, _, sq_of hn⟩, ?_⟩
    refine go_take (b := fl.values.contains (hd r)) hW (ev_var rfl) (ev_is (ev_op (ev_word hW (ev_var rfl)) (ev_var rfl) (rv_isL (sq_of hn) rfl (flat_strs _))) (by rw [inV_strs])) (fun hb z => ?_) (fun hb H' e1 hW' => ?_) (fun hb => ?_)
    · rw [z, List.contains_iff_mem] at hb
      have z2 := hnm _ hb
      revert z2
      decide +kernel
    · obtain ⟨i, hi⟩ := find_of_contains hb
      rw [hi] at hR
      exact (rc_index (K := K) (e1 _ _ nna hn) hi (hR H' e1 hW')).2
    · rw [find_none hb] at hR
      exact hR
-- def read_holes(words):
--     words.take(words.word() == 'holes')
--     return take_number(words, 1, MOST_HOLES)
-- slots 0:words
abbrev sread_holes : Stmt := top 32
theorem scread_holes : FnScope ["words"] ["words"] (defScope sread_holes) := ⟨rfl, rfl, rfl, by decide +kernel, rfl, by decide +kernel, by decide +kernel⟩
def sp_read_holes (CW CFa : Addr) : Sp := fun vs H Q E => ∃ (a lw : Addr) (n : Nat) (r : List Word), vs = [.ref a] ∧ WAt CW H a lw n r ∧ Rd CW CFa a lw n H Q E (fun (v : Nat) => .int (v : Int)) (do let ws ← must n (Vbenaf.W "holes") r; numIn n 1 6 ws)
theorem W_ne {s : String} (h : (VbenCore.bytesOf s).isEmpty = false) : Vbenaf.W s ≠ [] := fun z => by
  have h : (Vbenaf.W s).isEmpty = false := h
  rw [z] at h
  cases h
theorem ok_read_holes {f : Addr} {fd : FuncData} (F : Fun K "read_holes" "read_holes" sread_holes f fd) (T : TxtR mg) (m_Words_word : Met P w K mg base CX0 2 CW "word" (spW_word CW)) (m_Words_take : Met P w K mg base (L2.CX P w) 4 CW "take" (spW_take CW CFa)) (c_take_number : Cal P w K mg base (L2.CX P w) 5 "take_number" (sp_take_number CW CFa)) : FnOk P w K mg base (L2.CX P w) 6 f fd ["words"] (sp_read_holes CW CFa) := by
  refine F.okX scread_holes (fun vs H Q E h => ?_) (fun cdv A outer s H vs Q E hr h => ?_)
  · obtain ⟨a, lw, n, r, rfl, _⟩ := h
    rfl
  · obtain ⟨a, lw, n, r, rfl, hW, hR⟩ := h
    refine ⟨_, (pss_cons (ps_expr (pmtS m_Words_take hr (by decide) (takes_of rfl rfl rfl rfl) (pv 0) (pa_cons (pe_cmpR op_eq (pmt0 m_Words_word hr (by decide) (pv 0)) pe_str (nomark _)) pa_nil)))
      (pss_one (ps_ret (pcS c_take_number hr (by decide) (takes_of rfl rfl rfl rfl) (by rfl) (pa_cons (pv 0) (pa_cons pe_int (pa_cons (pgi T.MOST_HOLES) pa_nil))))))), ?_⟩
    have wne : Vbenaf.W "holes" ≠ [] := W_ne (by decide +kernel)
    rw [must_hd wne] at hR
    refine go_take (b := decide (hd r = Vbenaf.W "holes")) hW (ev_var rfl) (ev_is (ev_op (ev_word hW (ev_var rfl)) ev_c (rv_eq rfl)) (bl_word _ _)) (fun hb => hd_ne wne (of_decide_eq_true hb)) (fun hb H' e1 hW' => ?_) (fun hb => ?_)
    · rw [if_pos (of_decide_eq_true hb)] at hR
      have hR : Rd CW CFa a lw n H Q E (fun (v : Nat) => .int (v : Int)) (numIn n 1 6 r.tail) := hR
      obtain ⟨dx, k, ha⟩ := hW'.ins
      refine ⟨_, rfl, a, lw, n, 1, 6, r.tail, rfl, hW', by decide, by decide, ?_⟩
      cases hx : numIn n 1 6 r.tail with
      | ok z =>
        rw [hx] at hR
        exact fun H2 e2 hW2 => hR H2 (e1.trans e2) hW2
      | error p =>
        rw [hx] at hR
        exact Flt.mono hR e1 ha
    · rw [if_neg (of_decide_eq_false hb)] at hR
      exact hR
end
end N
set_option Elab.async false
set_option linter.all false
set_option maxRecDepth 100000
set_option maxHeartbeats 4000000
namespace N
open PySem PySem.Spec PyProof.Rows L2 Evl
open NM (vI FOk)
open VbenCore (Word placeOf must natOf isName)
open Vbenaf (numIn valueIn namesIn ends)
def nameOk (w : List Nat) : Bool := isName w && decide (w ≠ Vbenaf.W "is")
theorem isName_nil : isName [] = false := by decide +kernel
theorem isName_ten : isName [10] = false := by decide +kernel
theorem ends_hd (r : List Word) : ends r = (r.isEmpty || decide (hd r = [10])) := by
  cases r with
  | nil => rfl
  | cons w r =>
    show (false || (w.2 == [10])) = (false || decide (w.2 = [10]))
    rw [Bool.eq_iff_iff]
    simp
theorem names_step {e g : Nat} {l : List (List Nat)} {r : List Word} (h : l = [] ∨ ends r = false) : namesIn e (g + 1) l r = if (!l.contains (hd r) && nameOk (hd r)) = true then namesIn e g (l ++ [hd r]) r.tail else .error (placeOf e r) := by
  have hn : ¬ (ends r = true ∧ l.isEmpty = false) := by
    rintro ⟨h1, h2⟩
    rcases h with h | h
    · rw [h] at h2; cases h2
    · rw [h] at h1; cases h1
  conv => lhs; unfold Vbenaf.namesIn
  rw [if_neg hn]
  cases r with
  | nil =>
    have : nameOk (hd []) = false := by show (isName [] && _) = false; rw [isName_nil, Bool.false_and]
    rw [this, Bool.and_false, if_neg Bool.false_ne_true]
    rfl
  | cons w r =>
    show (if isName w.2 = true ∧ l.contains w.2 = false ∧ w.2 ≠ Vbenaf.W "is" then _ else _) = (if (!l.contains w.2 && nameOk w.2) = true then _ else _)
    unfold nameOk
    by_cases hc : isName w.2 = true ∧ l.contains w.2 = false ∧ w.2 ≠ Vbenaf.W "is"
    · rw [if_pos hc, if_pos (by rw [hc.2.1, hc.1, decide_eq_true hc.2.2]; rfl)]
      rfl
    · rw [if_neg hc, if_neg (fun z => hc (by simpa [Bool.and_eq_true, and_comm, and_assoc, and_left_comm] using z))]
      rfl
theorem names_end {e g : Nat} {l : List (List Nat)} {r : List Word} (hl : l ≠ []) (h : ends r = true) : namesIn e g l r = .ok (l, r) := by
  have he : l.isEmpty = false := by
    cases l with
    | nil => exact absurd rfl hl
    | cons _ _ => rfl
  cases g with
  | zero =>
    unfold Vbenaf.namesIn
    rw [if_pos h]
  | succ g =>
    unfold Vbenaf.namesIn
    rw [if_pos ⟨h, he⟩]
theorem names_full {e : Nat} {l : List (List Nat)} {r : List Word} (h : ends r = false) : namesIn e 0 l r = .error (placeOf e r) := by
  unfold Vbenaf.namesIn
  rw [if_neg (by rw [h]; decide)]
section
variable {P : Program} {w : World} {K : PySem.W.Frag} {mg : Str → Option Value} {base : Heap} {CW CFa : Addr}
/-- a list of names is handed back -/
def RdN (CW CFa a lw : Addr) (n : Nat) (H : Hp) (Q : VK) (E : XK) : Except Nat (List (List Nat) × List Word) → Prop
  | .ok (l, r) => ∀ p H', H p = none → ExB a H H' → WAt CW H' a lw n r → H' p = some (.lst (vstrs l)) → Q (.ref p) H'
  | .error p => Flt CFa a H E p
-- def read_names(words):
--     words.take(words.word() == 'values')
--     names = [words.take(may_be_name(words.word()))]
--     while not words.ended() and words.word() != LINE_END:
--         word = words.word()
--         names.append(words.take(len(names) < MOST_VALUES and word not in names and may_be_name(word)))
--     return names
-- slots 0:words 1:names 2:word
abbrev sread_names : Stmt := top 33
theorem scread_names : FnScope ["words", "names", "word"] ["words"] (defScope sread_names) := ⟨rfl, rfl, rfl, by decide +kernel, rfl, by decide +kernel, by decide +kernel⟩
def sp_read_names (CW CFa : Addr) : Sp := fun vs H Q E => ∃ (a lw : Addr) (n : Nat) (r : List Word), vs = [.ref a] ∧ WAt CW H a lw n r ∧ RdN CW CFa a lw n H Q E (do let ws ← must n (Vbenaf.W "values") r; namesIn n 8 [] ws)
theorem ok_read_names {f : Addr} {fd : FuncData} (F : Fun K "read_names" "read_names" sread_names f fd) (T : TxtR mg) (m_Words_ended : Met P w K mg base CX0 1 CW "ended" (spW_ended CW)) (m_Words_word : Met P w K mg base CX0 2 CW "word" (spW_word CW)) (m_Words_take : Met P w K mg base (L2.CX P w) 4 CW "take" (spW_take CW CFa)) (c_may_be_name : Cal P w K mg base CX0 1 "may_be_name" sp_name) : FnOk P w K mg base (L2.CX P w) 5 f fd ["words"] (sp_read_names CW CFa) := by
  refine F.okX scread_names (fun vs H Q E h => ?_) (fun cdv A outer s H vs Q E hr h => ?_)
  · obtain ⟨a, lw, n, r, rfl, _⟩ := h
    rfl
  · obtain ⟨a, lw, n, r, rfl, hW, hR⟩ := h
    refine ⟨_, (pss_cons (ps_expr (pmtS m_Words_take hr (by decide) (takes_of rfl rfl rfl rfl) (pv 0) (pa_cons (pe_cmpR op_eq (pmt0 m_Words_word hr (by decide) (pv 0)) pe_str (nomark _)) pa_nil)))
      (pss_cons (ps_set (i := 1) scread_names.nd rfl (Or.inl rfl) (pe_lst (pa_cons (pmtS m_Words_take hr (by decide) (takes_of rfl rfl rfl rfl) (pv 0) (pa_cons (pc c_may_be_name hr (by decide) (by rfl) (pa_cons (pmt0 m_Words_word hr (by decide) (pv 0)) pa_nil)) pa_nil)) pa_nil)))
      (pss_cons (ps_while (passes_of rfl) (PW.pt (pw_and (pt_not (pt_val (pmt0 m_Words_ended hr (by decide) (pv 0)))) (pw_and1 (pt_cmpR op_ne (pmt0 m_Words_word hr (by decide) (pv 0)) (pgs T.LINE_END) (nomark _)))))
        (pss_cons (ps_set (i := 2) scread_names.nd rfl (Or.inl rfl) (pmt0 m_Words_word hr (by decide) (pv 0)))
      (pss_one (ps_expr (papp K (pv 1) (pmtS m_Words_take hr (by decide) (takes_of rfl rfl rfl rfl) (pv 0) (pa_cons (pe_and (pe_cmpR op_lt (plen K T.len (pv 1)) (pgi T.MOST_VALUES) (nomark _)) (pe_and (qnin K (pv 2) (pv 1)) (pe_one (pc c_may_be_name hr (by decide) (by rfl) (pa_cons (pv 2) pa_nil))))) pa_nil)))))))
      (pss_one (ps_ret (pv 1)))))), ?_⟩
    have wne : Vbenaf.W "values" ≠ [] := W_ne (by decide +kernel)
    obtain ⟨dx, k, ha⟩ := hW.ins
    have plain : ∀ {H1 : Hp} {r : List Word}, WAt CW H1 a lw n r → (∀ c ∈ hd r, NM.sg c = c) ∧ (hd r).length ≤ 5000 := fun {H1 r} h => by
      cases r with
      | nil => exact ⟨fun c hc => (by cases hc), Nat.zero_le _⟩
      | cons w r => exact h.plain w (List.mem_cons_self ..)
    rw [must_hd wne] at hR
    refine go_take (b := decide (hd r = Vbenaf.W "values")) hW (ev_var rfl) (ev_is (ev_op (ev_word hW (ev_var rfl)) ev_c (rv_eq rfl)) (bl_word _ _)) (fun hb => hd_ne wne (of_decide_eq_true hb)) (fun hb H1 e1 hW1 => ?_) (fun hb => ?_)
    rotate_left
    · rw [if_neg (of_decide_eq_false hb)] at hR
      exact hR
    · rw [if_pos (of_decide_eq_true hb)] at hR
      replace hR : RdN CW CFa a lw n H Q E (namesIn n 8 [] r.tail) := hR
      generalize r.tail = r1 at hW1 hR
      obtain ⟨dx1, k1, ha1⟩ := hW1.ins
      rw [show (8 : Nat) = 7 + 1 from rfl, names_step (.inl rfl)] at hR
      have pl := plain hW1
      -- names = [words.take(may_be_name(words.word()))]
      refine go_take (b := nameOk (hd r1)) hW1 (ev_var rfl) (ev_call (ea_one (ev_word hW1 (ev_var rfl))) (pV.sp fun H2 e2 => ⟨hd r1, rfl, pl.1, pl.2, rfl⟩)) (fun hb z => ?_) (fun hb H2 e2 hW2 => ?_) (fun hb => ?_)
      · rw [z] at hb
        have hb : (isName [] && _) = true := hb
        rw [isName_nil, Bool.false_and] at hb
        cases hb
      · rw [if_pos (show (!([] : List (List Nat)).contains (hd r1) && nameOk (hd r1)) = true by rw [hb]; rfl)] at hR
        refine ⟨sz_of (Nat.le_of_ble_eq_true rfl), fun b nb => ?_⟩
        obtain ⟨dx2, k2, ha2⟩ := hW2.ins
        obtain ⟨lxs, hlw2⟩ := hW2.lst
        have nlb : lw ≠ b := ne_of_none hlw2 nb
        have nab : b ≠ a := fun z => by rw [z, ha2] at nb; cases nb
        have nb0 : H b = none := (e1.trans e2).none ha2 nb
        have n63 : ∀ w : List Nat, nameOk w = true → w ≠ [] := fun w h z => by
          subst z
          have h : (isName [] && _) = true := h
          rw [isName_nil, Bool.false_and] at h
          cases h
        show tSeq (tWhile _ _) _ _ [some (.ref a), some (.ref b), none] _
        refine q_while (fun m σ' H' => ∃ (l : List (List Nat)) (r : List Word) (v2 : Option V), σ' = [some (.ref a), some (.ref b), v2] ∧ l ≠ [] ∧ l.length ≤ 8 ∧ ExB a H H' ∧ WAt CW H' a lw n r ∧ H' b = some (.lst (vstrs l)) ∧ m = r.length ∧ RdN CW CFa a lw n H Q E (namesIn n (8 - l.length) l r))
          r1.tail.length ⟨[hd r1], r1.tail, none, rfl, by simp, by simp, (e1.trans e2).trans (ExB.of (Ex.new nb)), hW2.ex' (Ex.new nb), upd_same, rfl, by rw [show 8 - [hd r1].length = 7 from rfl]; exact hR⟩ ?_
        rintro m σ' H' ⟨l, r2, v2, rfl, hl0, hl8, eb, hW3, hb3, rfl, hR3⟩
        have te : EvT (tAnd (tNot (tB (tMeth CW "ended" (spW_ended CW) [] E0 (tVar 0) tNil))) (tTest (tOp rNe (tMeth CW "word" (spW_word CW) [] E0 (tVar 0) tNil) (tC (.str (Str.ofString "\n")))))) [some (.ref a), some (.ref b), v2] H' (!ends r2) := by
          refine et_is (et_and (et_not (et_B (ev_ended hW3 (ev_var rfl)))) fun _ => et_test (ev_is (ev_op (ev_word hW3 (ev_var rfl)) ev_c (rv_ne rfl)) (bl_wordN _ _))) ?_
          rw [ends_hd, Bool.not_or]
          rfl
        refine ⟨!ends r2, te, fun hc H4 e4 => ?_, fun hc H4 e4 => ?_⟩
        · have hends : ends r2 = false := by simpa using hc
          have hW4 := hW3.ex' e4
          obtain ⟨dx4, k4, ha4⟩ := hW4.ins
          have pl4 := plain hW4
          have eb4 := eb.trans (ExB.of e4)
          refine ⟨fun σ' H' => ∃ (l : List (List Nat)) (r : List Word) (v2 : Option V), σ' = [some (.ref a), some (.ref b), v2] ∧ l ≠ [] ∧ l.length ≤ 8 ∧ ExB a H H' ∧ WAt CW H' a lw n r ∧ H' b = some (.lst (vstrs l)) ∧ r.length < r2.length ∧ RdN CW CFa a lw n H Q E (namesIn n (8 - l.length) l r), ?_, ?_⟩
          · rintro σ2 H2 ⟨l', r', v2', h1, h2, h3, h4, h5, h6, h7, h8⟩
            exact ⟨_, h7, l', r', v2', h1, h2, h3, h4, h5, h6, rfl, h8⟩
          · refine q_asg (ev_word hW4 (ev_var rfl)) fun H5 e5 => ?_
            have hW5 := hW4.ex' e5
            have eb5 := eb4.trans (ExB.of e5)
            have hb5 := e5 _ _ (e4 _ _ hb3)
            obtain ⟨dx5, k5, ha5⟩ := hW5.ins
            refine ⟨_, rfl, .inl ⟨rfl, _, sq_of hb5⟩, ?_⟩
            refine go_take (b := decide (l.length < 8) && (!l.contains (hd r2) && nameOk (hd r2))) hW5 (ev_var rfl) (ev_andV (ev_is (ev_op (ev_lenE (ev_var rfl) hb5 rfl) ev_c rv_I0) (?_ : _ = V.bl (decide (l.length < 8)))) fun _ => ev_andV (ev_is (ev_op (ev_var rfl) (ev_var rfl) (rv_niL (sq_of hb5) rfl (flat_strs _))) (by rw [inV_strs])) fun _ => ev_call (ea_one (ev_var rfl)) (pV.sp fun H6 e6 => ⟨hd r2, rfl, pl4.1, pl4.2, rfl⟩)) (fun hb z => ?_) (fun hb H6 e6 hW6 => ?_) (fun hb => ?_)
            · show V.bl (decide (((vstrs l).length : Int) < 8)) = _
              rw [vstrs_len]
              congr 1
              rw [Bool.eq_iff_iff, decide_eq_true_eq, decide_eq_true_eq]
              omega
            · rw [Bool.and_eq_true, Bool.and_eq_true] at hb
              rw [z] at hb
              exact n63 _ hb.2.2 rfl
            · rw [Bool.and_eq_true, decide_eq_true_eq] at hb
              have hb6 := e6 _ _ nab hb5
              refine ⟨b, _, .str (S (hd r2)), rfl, rfl, hb6, sz_lt (by have := vstrs_len l; omega), ?_⟩
              refine ⟨l ++ [hd r2], r2.tail, _, rfl, by simp, by rw [List.length_append]; simp; omega, (eb5.trans e6).new _ nb0, hW6.upd hb6 nlb, ?_, ?_, ?_⟩
              · rw [upd_same, vstrs, vstrs, List.map_append]
                rfl
              · have : r2 ≠ [] := fun z => by rw [z] at hends; cases hends
                rw [List.length_tail]
                have := List.length_pos_iff.mpr this
                omega
              · rw [show 8 - l.length = (8 - (l.length + 1)) + 1 by omega, names_step (.inr hends), if_pos hb.2] at hR3
                rw [List.length_append]
                exact hR3
            · have hF : Flt CFa a H E (placeOf n r2) := by
                by_cases h8 : l.length < 8
                · rw [decide_eq_true h8, Bool.true_and] at hb
                  rw [show 8 - l.length = (8 - (l.length + 1)) + 1 by omega, names_step (.inr hends), if_neg (by rw [hb]; exact Bool.false_ne_true)] at hR3
                  exact hR3
                · rw [show 8 - l.length = 0 by omega, names_full hends] at hR3
                  exact hR3
              exact Flt.mono hF eb5 ha5
        · have hends : ends r2 = true := by simpa using hc
          rw [names_end hl0 hends] at hR3
          exact s_ret (ev_var rfl) fun H5 e5 => hR3 b H5 nb0 (eb.trans (ExB.of (e4.trans e5))) ((hW3.ex' e4).ex' e5) (e5 _ _ (e4 _ _ hb3))
      · rw [if_neg (show ¬ (!([] : List (List Nat)).contains (hd r1) && nameOk (hd r1)) = true by rw [hb, Bool.and_false]; exact Bool.false_ne_true)] at hR
        exact Flt.mono hR e1 ha1
end
end N
set_option Elab.async false
set_option linter.all false
set_option maxRecDepth 100000
set_option maxHeartbeats 4000000
namespace N
open PySem PySem.Spec PyProof.Rows L2 Evl
/-- all but what stands at a and b is as it was -/
def Ex2 (a b : Addr) (H H' : Hp) : Prop := ∀ c o, c ≠ a → c ≠ b → H c = some o → H' c = some o
theorem Ex2.ofB {a b : Addr} {H H' : Hp} (e : ExB a H H') : Ex2 a b H H' := fun c o n _ h => e c o n h
theorem Ex2.trans {a b : Addr} {H H1 H2 : Hp} (e : Ex2 a b H H1) (d : Ex2 a b H1 H2) : Ex2 a b H H2 := fun c o n m h => d c o n m (e c o n m h)
theorem Ex2.upd (a b : Addr) (H : Hp) (o : HO) : Ex2 a b H (L2.upd H b o) := fun c u _ m h => by rw [upd_ne m]; exact h
theorem Ex2.refl (a b : Addr) (H : Hp) : Ex2 a b H H := fun _ _ _ _ h => h
section
variable {K : PySem.W.Frag} {σ : L2.St} {H H' : Hp} {ta tb te tl to : TE} {t : TT} {x y z v : V}
theorem rv_ninP {a p : Addr} {ps : List Addr} {i j : Int} {ls : List (Nat × Nat)} (hl : H p = some (.lst (vrefs ps))) (hp : Tups H ps ls) (ht : H a = some (.tup [.int i, .int j])) :
    RV (rNotInD K) (.ref a) (.ref p) H (.bl (!ls.any fun l => decide (((l.1 : Int), (l.2 : Int)) = (i, j)))) := by
  intro H1 e1 Q k
  obtain ⟨d, ds, h1, h2, h3, h4, h5⟩ := rv_inP (K := K) hl hp ht H1 e1 (fun v H2 => v = .bl (ls.any fun l => decide (((l.1 : Int), (l.2 : Int)) = (i, j)))) fun H2 _ => rfl
  refine ⟨d, ds, h1, h2, h3, h4, ?_⟩
  rw [V.bl.injEq] at h5
  rw [h5]
  exact k H1 (Ex.refl _)
end
end N
set_option Elab.async false
set_option linter.all false
set_option maxRecDepth 100000
set_option maxHeartbeats 4000000
namespace N
open PySem PySem.Spec PyProof.Rows L2 Evl
open NM (vI FOk)
open VbenCore (Word placeOf must natOf isName)
open Vbenaf (numIn valueIn)
/-- a change let, behind its word -/
def letE (f : Fld) (e : Nat) (ws : List Word) : Except Nat ((Nat × Nat) × List Word) := do
  let (a, ws) ← valueIn f e ws
  let (b, rest) ← valueIn f e ws
  if a = b ∨ f.lets.contains (a, b) = true then .error (placeOf e ws) else return ((a, b), rest)
def LetsAt (H : Hp) (ll : Addr) (ls : List (Nat × Nat)) : Prop := ∃ ps, H ll = some (.lst (vrefs ps)) ∧ Tups H ps ls
theorem LetsAt.ex {H H' : Hp} {ll : Addr} {ls : List (Nat × Nat)} (h : LetsAt H ll ls) (e : Ex H H') : LetsAt H' ll ls := by
  obtain ⟨ps, h1, h2⟩ := h
  exact ⟨ps, e _ _ h1, h2.ex e⟩
theorem LetsAt.exB {H G : Hp} {a ll C dx : Addr} {fs : List (Str × V)} {ls : List (Nat × Nat)} (h : LetsAt H ll ls) (ha : H a = some (.ins C dx fs)) (e : ExB a H G) : LetsAt G ll ls := by
  obtain ⟨ps, h1, h2⟩ := h
  exact ⟨ps, e _ _ (ne_of h1 ha (by intro z; cases z)) h1, Tups.exB ha e h2⟩
theorem Tups.snoc {H : Hp} {p : Addr} {l : Nat × Nat} (hp : H p = some (.tup [.int (l.1 : Int), .int (l.2 : Int)])) : ∀ {as : List Addr} {ls : List (Nat × Nat)}, Tups H as ls → Tups H (as ++ [p]) (ls ++ [l])
  | [], [], _ => ⟨hp, trivial⟩
  | _ :: _, _ :: _, h => ⟨h.1, Tups.snoc hp h.2⟩
section
variable {P : Program} {w : World} {K : PySem.W.Frag} {mg : Str → Option Value} {base : Heap} {CW CFa : Addr}
theorem values_ix {σ : L2.St} {H : Hp} {ta tb : TE} {p : Addr} {l : List (List Nat)} {i : Nat} {x : List Nat} (ha : Ev ta σ H (.ref p)) (hl : H p = some (.lst (vstrs l))) (hb : Ev tb σ H (.int (i : Int))) (hi : l[i]? = some x) : Ev (tOp (rIxL K) ta tb) σ H (.str (S x)) :=
  ev_op ha hb (rv_ixL (sq_of hl) (atI_nat (by rw [vstrs, List.getElem?_map, hi]; rfl)))
theorem ev_index {σ : L2.St} {H : Hp} {to te : TE} {p : Addr} {l : List (List Nat)} {x : List Nat} {i : Nat} (ho : Ev to σ H (.ref p)) (hl : H p = some (.lst (vstrs l))) (he : Ev te σ H (.str (S x))) (hi : l.findIdx? (fun y => y == x) = some i) : Ev (tBM K "list" (rIndex K) to (tCons te tNil)) σ H (.int (i : Int)) :=
  fun H1 e1 Q k => ho H1 e1 _ fun H2 e2 => by
    have e12 := e1.trans e2
    refine ⟨.inl ⟨rfl, _, sq_of (e12 _ _ hl)⟩, he H2 e12 _ fun H3 e3 => (rc_index (K := K) ((e12.trans e3) _ _ hl) hi (k H3 (e2.trans e3))).2⟩
theorem find_at {l : List (List Nat)} {x : List Nat} {i : Nat} (h : l.findIdx? (fun y => y == x) = some i) : l[i]? = some x := by
  rw [List.findIdx?_eq_some_iff_findIdx_eq] at h
  obtain ⟨hlt, hi⟩ := h
  have z := List.findIdx_getElem (xs := l) (p := fun y => y == x) (w := by rw [hi]; exact hlt)
  rw [List.getElem?_eq_getElem hlt]
  have z2 : l[i] == x := by simpa only [hi] using z
  rw [beq_iff_eq] at z2
  rw [z2]
-- def read_let(words, names, lets):
--     first = take_value(words, names)
--     word = words.word()
--     second = names.index(words.take(word in names and word != names[first] and ((first, names.index(word)) not in lets)))
--     lets.append((first, second))
-- slots 0:words 1:names 2:lets 3:first 4:word 5:second
abbrev sread_let : Stmt := top 34
theorem scread_let : FnScope ["words", "names", "lets", "first", "word", "second"] ["words", "names", "lets"] (defScope sread_let) := ⟨rfl, rfl, rfl, by decide +kernel, rfl, by decide +kernel, by decide +kernel⟩
def sp_read_let (CW CFa : Addr) : Sp := fun vs H Q E => ∃ (a lw nm ll : Addr) (n : Nat) (f : Fld) (r : List Word), vs = [.ref a, .ref nm, .ref ll] ∧ WAt CW H a lw n r ∧ H nm = some (.lst (vstrs f.values)) ∧ (∀ x ∈ f.values, isName x = true) ∧ LetsAt H ll f.lets ∧ ll ≠ lw ∧ f.lets.length ≤ 1000 ∧
  match letE f n r with
    | .ok (p, r') => ∀ H', Ex2 a ll H H' → WAt CW H' a lw n r' → LetsAt H' ll (f.lets ++ [p]) → Q .non H'
    | .error p => Flt CFa a H E p
theorem ok_read_let {f : Addr} {fd : FuncData} (F : Fun K "read_let" "read_let" sread_let f fd) (m_Words_word : Met P w K mg base CX0 2 CW "word" (spW_word CW)) (m_Words_take : Met P w K mg base (L2.CX P w) 4 CW "take" (spW_take CW CFa)) (c_take_value : Cal P w K mg base (L2.CX P w) 5 "take_value" (sp_take_value CW CFa)) : FnOk P w K mg base (L2.CX P w) 6 f fd ["words", "names", "lets"] (sp_read_let CW CFa) := by
  refine F.okX scread_let (fun vs H Q E h => ?_) (fun cdv A outer s H vs Q E hr h => ?_)
  · obtain ⟨a, lw, nm, ll, n, fl, r, rfl, _⟩ := h
    rfl
  · obtain ⟨a, lw, nm, ll, n, fl, r, rfl, hW, hn, hnm, hl, nlw, hlen, hR⟩ := h
    refine ⟨_, (pss_cons (ps_set (i := 3) scread_let.nd rfl (Or.inl rfl) (pcS c_take_value hr (by decide) (takes_of rfl rfl rfl rfl) (by rfl) (pa_cons (pv 0) (pa_cons (pv 1) pa_nil))))
      (pss_cons (ps_set (i := 4) scread_let.nd rfl (Or.inl rfl) (pmt0 m_Words_word hr (by decide) (pv 0)))
      (pss_cons (ps_set (i := 5) scread_let.nd rfl (Or.inl rfl) (pindex K (pv 1) (pmtS m_Words_take hr (by decide) (takes_of rfl rfl rfl rfl) (pv 0) (pa_cons (pe_and (qin K (pv 4) (pv 1)) (pe_and (pe_cmpR op_ne (pv 4) (pix K (pv 1) (pv 3)) (nomark _)) (pe_one (qninD K (by exact hu65 hr) (pe_tup (pa_cons (pv 3) (pa_cons (pindex K (pv 1) (pv 4)) pa_nil))) (pv 2))))) pa_nil))))
      (pss_one (ps_expr (papp K (pv 2) (pe_tup (pa_cons (pv 3) (pa_cons (pv 5) pa_nil))))))))), ?_⟩
    obtain ⟨dx, k, ha⟩ := hW.ins
    have nna : nm ≠ a := ne_of hn ha (by intro z; cases z)
    refine ⟨_, rfl, _, rfl, a, lw, nm, n, fl, r, rfl, hW, hn, hnm, ?_⟩
    unfold letE at hR
    cases h1 : valueIn fl n r with
    | error p => rw [h1] at hR; exact hR
    | ok z =>
      obtain ⟨i, r1⟩ := z
      rw [h1] at hR
      intro H1 e1 hW1
      have hi : fl.values.findIdx? (fun x => x == hd r) = some i := by
        rw [valueIn_hd hnm] at h1
        cases hx : fl.values.findIdx? (fun x => x == hd r) with
        | none => rw [hx] at h1; cases h1
        | some j => rw [hx] at h1; cases h1; rfl
      have hn1 := e1 _ _ nna hn
      have hl1 := hl.exB ha e1
      obtain ⟨dx1, k1, ha1⟩ := hW1.ins
      replace hR : match (valueIn fl n r1 >>= fun (x : Nat × List Word) => if i = x.1 ∨ fl.lets.contains (i, x.1) = true then Except.error (placeOf n r1) else pure ((i, x.1), x.2)) with
        | .ok (p, r') => ∀ H', Ex2 a ll H H' → WAt CW H' a lw n r' → LetsAt H' ll (fl.lets ++ [p]) → Q .non H'
        | .error p => Flt CFa a H E p := hR
      rw [valueIn_hd hnm] at hR
      refine q_asg (ev_word hW1 (ev_var rfl)) fun H2 e2 => ?_
      have hW2 := hW1.ex' e2
      have hn2 := e2 _ _ hn1
      have hl2 := hl1.ex e2
      have e12 := e1.trans (ExB.of e2)
      obtain ⟨dx2, k2, ha2⟩ := hW2.ins
      -- whether the second word may stand
      have good : ∀ j, fl.values.findIdx? (fun x => x == hd r1) = some j → decide (hd r1 = hd r) = decide (i = j) := fun j hj => by
        rw [Bool.eq_iff_iff, decide_eq_true_eq, decide_eq_true_eq]
        constructor
        · intro z
          rw [z, hi] at hj
          exact Option.some.inj hj
        · intro z
          subst z
          have z1 := find_at hi
          have z2 := find_at hj
          rw [z1] at z2
          exact (Option.some.inj z2).symm
      have hin := values_ix (K := K) (ta := tVar 1) (tb := tVar 3) (σ := [some (.ref a), some (.ref nm), some (.ref ll), some (.int (i : Int)), some (.str (S (hd r1))), none]) (ev_var rfl) hn2 (ev_var rfl) (find_at hi)
      obtain ⟨ps2, hll2, htp2⟩ := hl2
      refine ⟨_, rfl, .inl ⟨rfl, _, sq_of hn2⟩, ?_⟩
      cases hj : fl.values.findIdx? (fun x => x == hd r1) with
      | none =>
        rw [hj] at hR
        have hc : fl.values.contains (hd r1) = false := by
          rw [← Bool.not_eq_true]
          intro c
          obtain ⟨j, hj'⟩ := find_of_contains c
          rw [hj'] at hj
          cases hj
        refine go_take (b := false) hW2 (ev_var rfl) (ev_is (ev_andV (b := false) (ev_is (ev_op (ev_var rfl) (ev_var rfl) (rv_isL (sq_of hn2) rfl (flat_strs _))) (by rw [inV_strs, hc])) fun z => (by cases z)) rfl) (fun hb => by cases hb) (fun hb => by cases hb) (fun _ => Flt.mono hR e12 ha2)
      | some j =>
        rw [hj] at hR
        have hc : fl.values.contains (hd r1) = true := List.contains_iff_mem.mpr (List.mem_of_getElem? (find_at hj))
        replace hR : match (if i = j ∨ fl.lets.contains (i, j) = true then Except.error (placeOf n r1) else pure ((i, j), r1.tail) : Except Nat ((Nat × Nat) × List Word)) with
          | .ok (p, r') => ∀ H', Ex2 a ll H H' → WAt CW H' a lw n r' → LetsAt H' ll (fl.lets ++ [p]) → Q .non H'
          | .error p => Flt CFa a H E p := hR
        have elets : (fl.lets.any fun l => decide (((l.1 : Int), (l.2 : Int)) = ((i : Int), (j : Int)))) = fl.lets.contains (i, j) := by
          rw [Bool.eq_iff_iff, List.any_eq_true, List.contains_iff_mem]
          constructor
          · rintro ⟨⟨x, y⟩, hm, h⟩
            rw [decide_eq_true_eq, Prod.mk.injEq] at h
            have h1 : (x : Int) = (i : Int) := h.1
            have h2 : (y : Int) = (j : Int) := h.2
            rw [show i = x by omega, show j = y by omega]
            exact hm
          · exact fun h => ⟨(i, j), h, by simp⟩
        refine go_take (b := !decide (i = j) && !fl.lets.contains (i, j)) hW2 (ev_var rfl) (ev_is (ev_andV (a := true) (b := !decide (i = j) && !fl.lets.contains (i, j)) (ev_is (ev_op (ev_var rfl) (ev_var rfl) (rv_isL (sq_of hn2) rfl (flat_strs _))) (by rw [inV_strs, hc])) fun _ => ev_andV (ev_is (ev_op (ev_var rfl) hin (rv_ne rfl)) ?_) fun _ => ev_opU1 (eu_tup (ea_two (ev_var rfl) (ev_index (ev_var rfl) hn2 (ev_var rfl) hj)) (by simp)) (ev_var rfl) fun q H4 hq e4 => ?_) (by rw [Bool.true_and])) (fun hb z => ?_) (fun hb H3 e3 hW3 => ?_) (fun hb => ?_)
        · show V.bl (!decide (V.str (S (hd r1)) = V.str (S (hd r)))) = _
          rw [← good j hj]
          congr 2
          rw [Bool.eq_iff_iff, decide_eq_true_eq, decide_eq_true_eq, V.str.injEq]
          exact ⟨fun h => SX.S_inj h, fun h => by rw [h]⟩
        · have z := rv_ninP (K := K) (e4 _ _ hll2) (htp2.ex e4) hq
          rw [elets] at z
          exact z
        · rw [z, List.contains_iff_mem] at hc
          have z2 := hnm _ hc
          revert z2
          decide +kernel
        · rw [if_neg (by
            rw [Bool.and_eq_true, Bool.not_eq_true', Bool.not_eq_true', decide_eq_false_iff_not] at hb
            rintro (z | z)
            · exact hb.1 z
            · rw [hb.2] at z
              cases z)] at hR
          have zix : ∀ Q : VK, Q (.int (j : Int)) H3 → rIndex K (.ref nm) [.str (S (hd r1))] H3 Q := fun Q q => (rc_index (e3 _ _ (ne_of hn2 ha2 (by intro z; cases z)) hn2) hj q).2
          unfold tNil
          refine zix _ ?_
          have nla : ll ≠ a := ne_of hll2 ha2 (by intro z; cases z)
          have hb3 := e3 _ _ nla hll2
          have htp3 := Tups.exB ha2 e3 htp2
          have hlp := htp3.len
          refine s_appU hb3 (ev_var rfl) (eu_tup (ea_two (ev_var rfl) (ev_var rfl)) (by simp)) (by rw [vrefs_len]; omega) fun q H5 nq e5 hq => ?_
          have hb5 := e5 _ _ hb3
          exact hR _ (((Ex2.ofB (e12.trans e3)).trans (Ex2.ofB (ExB.of e5))).trans (Ex2.upd a ll _ _)) (WAt.upd (hW3.ex' e5) hb5 (Ne.symm nlw)) ⟨ps2 ++ [q], by rw [upd_same, vrefs, vrefs, List.map_append]; rfl, Tups.snoc (tup_upd hb5 hq) (Tups.upd hb5 (htp3.ex e5))⟩
        · rw [if_pos (by
            rw [Bool.and_eq_false_iff, Bool.not_eq_false', Bool.not_eq_false', decide_eq_true_eq] at hb
            exact hb)] at hR
          exact Flt.mono hR e12 ha2
end
end N
set_option Elab.async false
set_option linter.all false
set_option maxRecDepth 100000
set_option maxHeartbeats 4000000
namespace N
open PySem PySem.Spec PyProof.Rows L2 Evl
open NM (vI FOk)
open VbenCore (Word placeOf must natOf isName)
open Vbenaf (numIn valueIn holesIn)
/-- behind a state's holes -/
def atRest (f : Fld) (e : Nat) (x : Nat × List Word) : Except Nat ((Nat × Nat) × List Word) :=
  if (Vbenaf.valueOf f x.1).isSome = true then .error (placeOf e x.2)
  else do
    let ws ← must e (Vbenaf.W "is") x.2
    let (v, ws) ← valueIn f e ws
    return ((x.1, v), ws)
/-- a state's value, behind the word at -/
def atE (f : Fld) (e : Nat) (ws : List Word) : Except Nat ((Nat × Nat) × List Word) := holesIn f e f.holes 0 0 ws >>= atRest f e
theorem is_ne : Vbenaf.W "is" ≠ [] := W_ne (by decide +kernel)
theorem ahead_hd {b : List Nat} (hb : b ≠ []) (r : List Word) : VbenCore.ahead b r = decide (hd r = b) := by
  cases r with
  | nil => exact (decide_eq_false (p := hd [] = b) (fun h => hb (show [] = b from h).symm)).symm
  | cons w r =>
    show (w.2 == b) = decide (w.2 = b)
    rw [Bool.eq_iff_iff]
    simp
theorem at_stop {f : Fld} {n g lo s : Nat} {r : List Word} (h : hd r = Vbenaf.W "is") : holesIn f n g lo s r = .ok (s, r) := by
  cases g with
  | zero => rfl
  | succ g =>
    unfold Vbenaf.holesIn
    rw [if_pos (by rw [ahead_hd is_ne, decide_eq_true h])]
theorem at_step {f : Fld} {n g lo s : Nat} {r : List Word} (h : ¬ hd r = Vbenaf.W "is") (h1 : 1 ≤ f.holes) (hg : f.holes ≤ lo + g) :
    holesIn f n g lo s r >>= atRest f n = numIn n lo (f.holes - 1) r >>= fun x => holesIn f n (g - 1) (x.1 + 1) (s + 2 ^ x.1) x.2 >>= atRest f n := by
  rw [numIn_hd]
  cases g with
  | zero =>
    have e1 : (match natOf (hd r) with
      | some v => if lo ≤ v ∧ v ≤ f.holes - 1 then Except.ok (v, r.tail) else .error (placeOf n r)
      | none => .error (placeOf n r) : Except Nat (Nat × List Word)) = .error (placeOf n r) := by
      cases natOf (hd r) with
      | none => rfl
      | some v => exact if_neg (fun z => by omega)
    refine Eq.trans ?_ (congrArg (fun z : Except Nat (Nat × List Word) => z >>= fun x => holesIn f n (0 - 1) (x.1 + 1) (s + 2 ^ x.1) x.2 >>= atRest f n) e1.symm)
    show atRest f n (s, r) = .error _
    unfold atRest
    rw [must_hd is_ne, if_neg h]
    split
    · rfl
    · rfl
  | succ g =>
    have e1 : holesIn f n (g + 1) lo s r = match natOf (hd r) with
      | some v => if lo ≤ v ∧ v < f.holes then holesIn f n g (v + 1) (s + 2 ^ v) r.tail else .error (placeOf n r)
      | none => .error (placeOf n r) := by
      conv => lhs; unfold Vbenaf.holesIn
      rw [if_neg (by rw [ahead_hd is_ne, decide_eq_true_eq]; exact h)]
      cases r with
      | nil => rfl
      | cons w r => rfl
    rw [e1]
    cases natOf (hd r) with
    | none => rfl
    | some v =>
      show (if lo ≤ v ∧ v < f.holes then _ else _) >>= _ = (if lo ≤ v ∧ v ≤ f.holes - 1 then _ else _) >>= _
      by_cases hc : lo ≤ v ∧ v < f.holes
      · rw [if_pos hc, if_pos ⟨hc.1, by omega⟩]
        rfl
      · rw [if_neg hc, if_neg (fun z => hc ⟨z.1, by omega⟩)]
        rfl
def TabAt (H : Hp) (tt : Addr) (t : List (Option Nat)) : Prop := H tt = some (.lst (t.map fun v => V.int (vI v)))
section
variable {P : Program} {w : World} {K : PySem.W.Frag} {mg : Str → Option Value} {base : Heap} {CW CFa : Addr}
/-- a call that may raise -/
theorem go_callS {sp : Sp} {W : L2.St → XK} {t : TA} {σ : L2.St} {H : Hp} {vs : List V} {Q : VK} (ha : EvA t σ H vs) (h : ∀ H1, Ex H H1 → sp vs H1 Q (W σ)) : tCallS sp W t σ H Q := ha H (Ex.refl _) _ h
-- def read_at(words, holes, names, table):
--     state = 0
--     least = 0
--     while words.word() != 'is':
--         hole = take_number(words, least, holes - 1)
--         state += 1 << hole
--         least = hole + 1
--     words.take(table[state] == NO_VALUE)
--     table[state] = take_value(words, names)
-- slots 0:words 1:holes 2:names 3:table 4:state 5:least 6:hole
abbrev sread_at : Stmt := top 35
theorem scread_at : FnScope ["words", "holes", "names", "table", "state", "least", "hole"] ["words", "holes", "names", "table"] (defScope sread_at) := ⟨rfl, rfl, rfl, by decide +kernel, rfl, by decide +kernel, by decide +kernel⟩
def AtR (CW CFa a lw tt : Addr) (n : Nat) (f : Fld) (H : Hp) (Q : VK) (E : XK) : Except Nat ((Nat × Nat) × List Word) → Prop
    | .ok (p, r') => ∀ H', Ex2 a tt H H' → WAt CW H' a lw n r' → TabAt H' tt (f.table.set p.1 (some p.2)) → Q .non H'
    | .error p => Flt CFa a H E p
def sp_read_at (CW CFa : Addr) : Sp := fun vs H Q E => ∃ (a lw nm tt : Addr) (n : Nat) (f : Fld) (r : List Word), vs = [.ref a, .int (f.holes : Int), .ref nm, .ref tt] ∧ WAt CW H a lw n r ∧ H nm = some (.lst (vstrs f.values)) ∧ FOk f ∧ TabAt H tt f.table ∧ tt ≠ lw ∧
  AtR CW CFa a lw tt n f H Q E (atE f n r)
theorem ok_read_at {f : Addr} {fd : FuncData} (F : Fun K "read_at" "read_at" sread_at f fd) (T : TxtR mg) (m_Words_word : Met P w K mg base CX0 2 CW "word" (spW_word CW)) (m_Words_take : Met P w K mg base (L2.CX P w) 4 CW "take" (spW_take CW CFa)) (c_take_number : Cal P w K mg base (L2.CX P w) 5 "take_number" (sp_take_number CW CFa)) (c_take_value : Cal P w K mg base (L2.CX P w) 5 "take_value" (sp_take_value CW CFa)) : FnOk P w K mg base (L2.CX P w) 6 f fd ["words", "holes", "names", "table"] (sp_read_at CW CFa) := by
  refine F.okX scread_at (fun vs H Q E h => ?_) (fun cdv A outer s H vs Q E hr h => ?_)
  · obtain ⟨a, lw, nm, tt, n, fl, r, rfl, _⟩ := h
    rfl
  · obtain ⟨a, lw, nm, tt, n, fl, r, rfl, hW, hn, ok, ht, nlt, hR⟩ := h
    refine ⟨_, (pss_cons (ps_set (i := 4) scread_at.nd rfl (Or.inl rfl) pe_int)
      (pss_cons (ps_set (i := 5) scread_at.nd rfl (Or.inl rfl) pe_int)
      (pss_cons (ps_while (passes_of rfl) (pt_cmpR op_ne (pmt0 m_Words_word hr (by decide) (pv 0)) pe_str (nomark _))
        (pss_cons (ps_set (i := 6) scread_at.nd rfl (Or.inl rfl) (pcS c_take_number hr (by decide) (takes_of rfl rfl rfl rfl) (by rfl) (pa_cons (pv 0) (pa_cons (pv 5) (pa_cons (pe_op op_sub (pv 1) pe_int) pa_nil)))))
      (pss_cons (ps_aug (i := 4) scread_at.nd rfl (Or.inl rfl) (pe_op op_shl pe_int (pv 6)) ip_add)
      (pss_one (ps_set (i := 5) scread_at.nd rfl (Or.inl rfl) (pe_op op_add (pv 6) pe_int))))))
      (pss_cons (ps_expr (pmtS m_Words_take hr (by decide) (takes_of rfl rfl rfl rfl) (pv 0) (pa_cons (pe_cmpR op_eq (pix K (pv 3) (pv 4)) (pgi T.NO_VALUE) (nomark _)) pa_nil)))
      (pss_one (ps_asg (pcS c_take_value hr (by decide) (takes_of rfl rfl rfl rfl) (by rfl) (pa_cons (pv 0) (pa_cons (pv 2) pa_nil))) (pg_sub (pv 3) (pv 4) set_list))))))), ?_⟩
    obtain ⟨dx, k, ha⟩ := hW.ins
    have nna : nm ≠ a := ne_of hn ha (by intro z; cases z)
    have nta : tt ≠ a := ne_of ht ha (by intro z; cases z)
    have hh1 := ok.h1
    have hh6 := ok.h6
    refine q_asg ev_c fun H1 e1 => ?_
    refine q_asg ev_c fun H2 e2 => ?_
    have e12 := e1.trans e2
    show tSeq (tWhile _ _) _ _ [some (.ref a), some (.int (fl.holes : Int)), some (.ref nm), some (.ref tt), some (.int ((0 : Nat) : Int)), some (.int ((0 : Nat) : Int)), none] _
    refine q_while (fun m σ' H' => ∃ (s lo g : Nat) (r : List Word) (v6 : Option V), σ' = [some (.ref a), some (.int (fl.holes : Int)), some (.ref nm), some (.ref tt), some (.int (s : Int)), some (.int (lo : Int)), v6] ∧ fl.holes ≤ lo + g ∧ lo ≤ fl.holes ∧ s < 2 ^ lo ∧ ExB a H H' ∧ WAt CW H' a lw n r ∧ m = r.length ∧ AtR CW CFa a lw tt n fl H Q E (holesIn fl n g lo s r >>= atRest fl n))
      r.length ⟨0, 0, fl.holes, r, none, rfl, by omega, Nat.zero_le _, by decide, ExB.of e12, hW.ex' e12, rfl, hR⟩ ?_
    rintro m σ' H' ⟨s, lo, g, r2, v6, rfl, hg, hlo, hs, eb, hW3, rfl, hR3⟩
    refine ⟨!decide (hd r2 = Vbenaf.W "is"), et_test (ev_is (ev_op (ev_word hW3 (ev_var rfl)) ev_c (rv_ne rfl)) (bl_wordN _ _)), fun hc H4 e4 => ?_, fun hc H4 e4 => ?_⟩
    · have hne : ¬ hd r2 = Vbenaf.W "is" := by simpa using hc
      rw [at_step hne hh1 hg] at hR3
      have hW4 := hW3.ex' e4
      have eb4 := eb.trans (ExB.of e4)
      obtain ⟨dx4, k4, ha4⟩ := hW4.ins
      refine ⟨fun σ' H' => ∃ (s lo g : Nat) (r : List Word) (v6 : Option V), σ' = [some (.ref a), some (.int (fl.holes : Int)), some (.ref nm), some (.ref tt), some (.int (s : Int)), some (.int (lo : Int)), v6] ∧ fl.holes ≤ lo + g ∧ lo ≤ fl.holes ∧ s < 2 ^ lo ∧ ExB a H H' ∧ WAt CW H' a lw n r ∧ r.length < r2.length ∧ AtR CW CFa a lw tt n fl H Q E (holesIn fl n g lo s r >>= atRest fl n), ?_, ?_⟩
      · rintro σ2 H2 ⟨s, lo, g, r', v6', h1, h2, h3, h4, h5, h6, h7, h8⟩
        exact ⟨_, h7, s, lo, g, r', v6', h1, h2, h3, h4, h5, h6, rfl, h8⟩
      · rw [numIn_hd] at hR3
        have fault : ∀ {G : Hp}, Ex H4 G → Flt CFa a H E (placeOf n r2) → Flt CFa a G E (placeOf n r2) := fun {G} e h => h.mono (eb4.trans (ExB.of e)) (e _ _ ha4)
        have ha3 : EvA (tCons (tVar 0) (tCons (tVar 5) (tCons (tOp (rI0 fun i j => V.int (i - j)) (tVar 1) (tC (V.int 1))) tNil))) [some (.ref a), some (.int (fl.holes : Int)), some (.ref nm), some (.ref tt), some (.int (s : Int)), some (.int (lo : Int)), v6] H4 [.ref a, .int (lo : Int), .int ((fl.holes : Int) - 1)] := ea_cons (ev_var rfl) (ea_two (ev_var rfl) (ev_op (ev_var rfl) ev_c rv_I0))
        refine go_callS ha3 fun H7 e47 => ?_
        have hW7 := hW4.ex' e47
        have ha7 := e47 _ _ ha4
        refine ⟨a, lw, n, lo, fl.holes - 1, r2, by rw [show ((fl.holes - 1 : Nat) : Int) = (fl.holes : Int) - 1 by omega], hW7, by omega, by omega, ?_⟩
        rw [numIn_hd]
        cases hno : natOf (hd r2) with
        | none =>
          rw [hno] at hR3
          exact fault e47 hR3
        | some v =>
          rw [hno] at hR3
          by_cases hc2 : lo ≤ v ∧ v ≤ fl.holes - 1
          · simp only [if_pos hc2] at hR3 ⊢
            intro H8 e8 hW8
            have hr0 : r2 ≠ [] := fun z => by rw [z] at hno; cases hno
            refine s_aug (D := _) rfl (ev_op ev_c (ev_var rfl) (rv_I (C := CPow) ?_)) fun H9 e9 => ?_
            · exact ⟨by omega, by omega, by decide⟩
            · refine s_asg (ev_op (ev_var rfl) ev_c rv_I0) fun H10 e10 => ?_
              have e810 := e9.trans e10
              have hv : lo ≤ v := hc2.1
              have p1 : 2 ^ lo ≤ 2 ^ v := Nat.pow_le_pow_right (by decide) hv
              have p2 : (2 : Nat) ^ (v + 1) = 2 ^ v + 2 ^ v := by rw [Nat.pow_succ]; omega
              refine ⟨s + 2 ^ v, v + 1, g - 1, r2.tail, some (.int (v : Int)), ?_, by omega, by omega, by omega, (eb4.trans (ExB.of e47)).trans (e8.trans (ExB.of e810)), hW8.ex' e810, ?_, hR3⟩
              · show [some (V.ref a), some (V.int ↑fl.holes), some (V.ref nm), some (V.ref tt), some (V.int ((s : Int) + 1 * 2 ^ ((v : Int)).toNat)), some (V.int ((v : Int) + 1)), some (V.int (v : Int))] = _
                rw [Int.toNat_natCast, Int.one_mul, show ((s + 2 ^ v : Nat) : Int) = (s : Int) + 2 ^ v by push_cast; rfl, show ((v + 1 : Nat) : Int) = (v : Int) + 1 by omega]
              · cases r2 with
                | nil => exact absurd rfl hr0
                | cons _ _ => show _ < _ + 1; exact Nat.lt_succ_self _
          · simp only [if_neg hc2] at hR3 ⊢
            exact fault e47 hR3
    · have he : hd r2 = Vbenaf.W "is" := by simpa using hc
      rw [at_stop he] at hR3
      replace hR3 : AtR CW CFa a lw tt n fl H Q E (atRest fl n (s, r2)) := hR3
      have hW4 := hW3.ex' e4
      have eb4 := eb.trans (ExB.of e4)
      obtain ⟨dx4, k4, ha4⟩ := hW4.ins
      have ht4 : H4 tt = _ := eb4 _ _ nta ht
      have hn4 := eb4 _ _ nna hn
      have hst : s < Vbenaf.states fl := Nat.lt_of_lt_of_le hs (Nat.pow_le_pow_right (by decide) hlo)
      unfold atRest at hR3
      rw [must_hd is_ne, if_pos he] at hR3
      have hvn : (Vbenaf.valueOf fl s).isSome = !decide (Vbenaf.valueOf fl s = none) := by cases Vbenaf.valueOf fl s <;> rfl
      refine go_take (b := decide (Vbenaf.valueOf fl s = none)) hW4 (ev_var rfl) (ev_is (ev_op (v_ix (ev_var rfl) ht4 (ev_var rfl) ok hst) ev_c (rv_eq rfl)) ?_) (fun hb => hd_ne is_ne he) (fun hb H5 e5 hW5 => ?_) (fun hb => ?_)
      · show V.bl (decide (V.int (vI _) = V.int (-1))) = _
        congr 1
        rw [Bool.eq_iff_iff, decide_eq_true_eq, decide_eq_true_eq, V.int.injEq, NM.vI_isNone]
      · rw [if_neg (by rw [hvn, hb]; decide)] at hR3
        replace hR3 : AtR CW CFa a lw tt n fl H Q E (valueIn fl n r2.tail >>= fun x => pure ((s, x.1), x.2)) := hR3
        have eb5 := eb4.trans e5
        obtain ⟨dx5, k5, ha5⟩ := hW5.ins
        refine go_callS (ea_two (ev_var rfl) (ev_var rfl)) fun H6 e6 => ?_
        have eb6 := eb5.trans (ExB.of e6)
        have ha6 := e6 _ _ ha5
        refine ⟨a, lw, nm, n, fl, r2.tail, rfl, hW5.ex' e6, eb6 _ _ nna hn, fun x hx => (ok.nm x hx).1, ?_⟩
        cases hx : valueIn fl n r2.tail with
        | error p =>
          rw [hx] at hR3
          exact Flt.mono hR3 eb6 ha6
        | ok z =>
          obtain ⟨v, r3⟩ := z
          rw [hx] at hR3
          intro H7 e7 hW7
          have eb7 := eb6.trans e7
          have ht7 : H7 tt = some (.lst (fl.table.map fun v => V.int (vI v))) := eb7 _ _ nta ht
          refine (ev_var rfl : Ev (tVar 3) [some (.ref a), some (.int (fl.holes : Int)), some (.ref nm), some (.ref tt), some (.int (s : Int)), some (.int (lo : Int)), v6] H7 (.ref tt)) H7 (Ex.refl _) _ fun H8 e8 => (ev_var rfl : Ev (tVar 4) [some (.ref a), some (.int (fl.holes : Int)), some (.ref nm), some (.ref tt), some (.int (s : Int)), some (.int (lo : Int)), v6] H8 (.int (s : Int))) H8 (Ex.refl _) _ fun H9 e9 => ?_
          have e79 := e8.trans e9
          have ht9 := e79 _ _ ht7
          refine ⟨tt, _, (s : Int), s, rfl, rfl, ht9, ixN_nat (by rw [List.length_map, ok.tl]; exact hst), hR3 _ ((Ex2.ofB (eb7.trans (ExB.of e79))).trans (Ex2.upd a tt _ _)) (WAt.upd (hW7.ex' e79) ht9 (Ne.symm nlt)) ?_⟩
          show upd _ _ _ _ = _
          rw [upd_same, List.map_set]
          rfl
      · rw [if_pos (by rw [hvn, hb]; rfl)] at hR3
        exact Flt.mono hR3 eb4 ha4
end
end N
set_option Elab.async false
set_option linter.all false
set_option maxRecDepth 100000
set_option maxHeartbeats 4000000
namespace N
open PySem PySem.Spec PyProof.Rows L2 Evl
theorem joinL_between (a : List Nat) : ∀ ys : List (List Nat), TL.joinL a ys = VbenCore.between a ys
  | [] => rfl
  | [_] => rfl
  | p :: q :: r => by
    show p ++ (a ++ TL.joinL a (q :: r)) = p ++ a ++ VbenCore.between a (q :: r)
    rw [joinL_between a (q :: r), List.append_assoc]
theorem between_nil (ys : List (List Nat)) : VbenCore.between [] ys = ys.flatten := by
  induction ys with
  | nil => rfl
  | cons x ys ih =>
    cases ys with
    | nil => simp [VbenCore.between]
    | cons y r =>
      show x ++ [] ++ VbenCore.between [] (y :: r) = _
      rw [ih, List.append_nil]; rfl
theorem vstrs_S (ys : List (List Nat)) : vstrs ys = (ys.map S).map V.str := by rw [List.map_map]; rfl
section
variable {K : PySem.W.Frag} {σ : L2.St} {H H' : Hp} {ta tb te tl to : TE} {t : TT} {x y z v : V}
/-- sep.join(..) of a new list of texts -/
theorem ev_joinN {a : List Nat} {ys : List (List Nat)} (ho : Ev to σ H (.str (S a))) (he : EvL te σ H (vstrs ys)) (hz : (ys.map (·.length)).sum + ys.length * a.length ≤ 16777216) : Ev (tM1 (rJoin K) to te) σ H (.str (S (VbenCore.between a ys))) :=
  fun H1 e1 Q k => ho H1 e1 _ fun H2 e2 => ⟨⟨_, rfl⟩, he H2 (e1.trans e2) _ fun p H3 _ e3 hp => ⟨S a, p, ys.map S, rfl, rfl, .inl (by rw [← vstrs_S]; exact sq_of hp), by
    have e : (ys.map S).map (·.length) = ys.map (·.length) := by rw [List.map_map]; rfl
    rw [e, List.length_map]
    exact hz, by
    rw [SX.join_S, joinL_between]
    exact k H3 (e2.trans e3)⟩⟩
theorem s_add {D : Ends} {tv : TE} {a C dx : Addr} {fs : List (Str × V)} {f : Str} (ns : List Str) (ho : Ev to σ H (.ref a)) (hv : Ev tv σ H v) (ha : H a = some (.ins C dx fs)) (c : Cls K C) (n : NoAttr K C f) (hns : fs.map (·.1) = ns) (hf : ns.all (fun g => !decide (g = f)) = true) (l : ns.length < 1000)
    (k : ∀ G, G a = some (.ins C dx (fs ++ [(f, v)])) → ExB a H G → D.nx σ G) : sFld K to tv f D σ H := by
  subst hns
  refine s_fld ho hv ha c n (by rw [List.length_map] at l; exact l) fun H1 e1 => k _ ?_ ((ExB.of e1).trans (ExB.upd _ _ _))
  rw [upd_same, putF_fresh hf]
theorem WTups.exB {G : Hp} {C dx a : Addr} {fs : List (Str × V)} {ts : List Addr} {ws : List VbenCore.Word} (h : WTups H ts ws) (ha : H a = some (.ins C dx fs)) (e : ExB a H G) : WTups G ts ws :=
  WTups.keep (fun _ _ q => e _ _ (ne_of q ha (by intro z; cases z)) q) h
end
end N
set_option Elab.async false
set_option linter.all false
set_option maxRecDepth 100000
set_option maxHeartbeats 4000000
namespace N
open PySem PySem.Spec PyProof.Rows L2 Evl
open NM (vI FOk)
open VbenCore (Word placeOf must natOf isName)
section
variable {P : Program} {w : World} {K : PySem.W.Frag} {mg : Str → Option Value} {base : Heap} {CW CFa : Addr}
-- def __init__(self, codes):
--     self.words = words_of(''.join([sign_of(code) for code in codes]))
--     self.length = len(codes)
--     self.passed = 0
-- slots 0:self 1:codes 2:code
abbrev sWords_init : Stmt := inClass (top 28) 0
theorem scWords_init : FnScope ["self", "codes", "code"] ["self", "codes"] (defScope sWords_init) := ⟨rfl, rfl, rfl, by decide +kernel, rfl, by decide +kernel, by decide +kernel⟩
def spW_init (CW : Addr) : Sp := fun vs H Q _ => ∃ (a dx p : Addr) (t : List Nat), vs = [.ref a, .ref p] ∧ H a = some (.ins CW dx []) ∧ H p = some (.lst (vnats t)) ∧ t.length ≤ 2000 ∧ (∀ c ∈ t, c < 256) ∧
  ∀ lw H', H lw = none → ExB a H H' → WAt CW H' a lw t.length (VbenCore.cut 0 (t.map NM.sg)) → Q .non H'
theorem okW_init {f : Addr} {fd : FuncData} (F : Fun K "__init__" "Words.__init__" sWords_init f fd) (T : TxtW K mg CW) (c_words_of : Cal P w K mg base CX0 1 "words_of" sp_words_of) (c_sign_of : Cal P w K mg base CX0 1 "sign_of" sp_sign_of) : FnOk P w K mg base CX0 2 f fd ["self", "codes"] (spW_init CW) := by
  refine F.ok scWords_init (fun vs H Q E h => ?_) (fun cdv A outer s H vs Q E hr h => ?_)
  · obtain ⟨a, dx, p, t, rfl, _⟩ := h
    rfl
  · obtain ⟨a, dx, p, t, rfl, ha, hp, hl, hb, ret⟩ := h
    refine ⟨_, (pss_cons (psfld K (pv 0) (pc c_words_of hr (by decide) (by rfl) (pa_cons (pjoin K pe_str (pe_lc (own := [("code", 2)]) (g := (gName 2)) (by rfl) scWords_init.nd (piList K (pv 1)) (blkOk_by (own := [("code", 2)]) (N := ["self", "codes", "code"]) (sc := defScope sWords_init) (by decide +kernel)) (fun _ _ _ _ _ => (pg_name (i := 2) scWords_init.nd rfl (Or.inl rfl))) (fun _ _ _ _ _ => pts_nil) (fun _ _ _ _ _ => (pc c_sign_of hr (by decide) (by rfl) (pa_cons (pv 2) pa_nil))))) pa_nil)))
      (pss_cons (psfld K (pv 0) (plen K T.len (pv 1)))
      (pss_one (psfld K (pv 0) pe_int)))), ?_⟩
    have npa : p ≠ a := ne_of hp ha (by intro z; cases z)
    have e0 : ((t.filter fun _ => true).map fun c => V.str (S [NM.sg c])) = vstrs (t.map fun c => [NM.sg c]) := by
      rw [List.filter_eq_self.mpr (fun _ _ => rfl), vstrs, List.map_map]
      rfl
    have e1 : VbenCore.between [] (t.map fun c => [NM.sg c]) = t.map NM.sg := by
      rw [between_nil]
      clear hp hl hb ret e0
      induction t with
      | nil => rfl
      | cons c t ih => rw [List.map_cons, List.flatten_cons, ih]; rfl
    have hsum : ((t.map fun c => [NM.sg c]).map (·.length)).sum = t.length := by
      clear hp hl hb ret e0 e1
      induction t with
      | nil => rfl
      | cons c t ih => rw [List.map_cons, List.map_cons, List.sum_cons, ih, List.length_cons]; simp; omega
    have hlen2 : (t.map NM.sg).length ≤ 2000 := by rw [List.length_map]; exact hl
    refine q_addN [] rfl (Pn := fun q H' => ∃ ts, H' q = some (.lst (vrefs ts)) ∧ WTups H' ts (VbenCore.cut 0 (t.map NM.sg))) ?_ ha T.cW T.nWords rfl (by decide +kernel) (by decide) fun lw H1 flw e1' ⟨ts, hlw, hts⟩ a1 b1 => ?_
    · intro H1 a1 Q1 k1
      refine (ea_one (ev_is (ev_joinN (K := K) (ys := t.map fun c => [NM.sg c]) (ev_is ev_c (by rw [s_empty])) (by
        rw [← e0]
        exact el_lcLm (l := t) (c := fun (n : Nat) => V.int (n : Int)) (g := fun _ => true) (v := fun c => V.str (S [NM.sg c])) (ev_var rfl) hp (by omega) (fun x => rfl) (fun o H2 _ _ => fun H3 _ Q q => q H3 (Ex.refl _)) (fun o H2 _ ho _ => ev_call (ea_one (ev_var rfl)) (pV.sp fun H3 _ => ⟨o, rfl, hb o ho, rfl⟩))) (by rw [hsum]; simp; omega)) (by rw [e1]))) H1 a1 _ fun H2 e2 => ⟨t.map NM.sg, rfl, hlen2, fun q H3 nq e3 hq => k1 q H3 (fresh_back e2 nq) (e2.trans e3) hq⟩
    · have nla : lw ≠ a := fun z => by rw [z] at hlw; exact absurd (hlw.symm.trans (e1' _ _ ha)) (by intro y; cases y)
      have hlw1 : (upd H1 a (.ins CW dx ([] ++ [(("words" : Str), V.ref lw)]))) lw = some (.lst (vrefs ts)) := by rw [upd_ne nla]; exact hlw
      have hts1 := WTups.exB hts (e1' _ _ ha) (ExB.upd a H1 (.ins CW dx ([] ++ [(("words" : Str), V.ref lw)])))
      have hp1 := b1 _ _ npa hp
      generalize upd H1 a (.ins CW dx ([] ++ [(("words" : Str), V.ref lw)])) = G1 at a1 b1 hlw1 hts1 hp1 ⊢
      refine q_add ["words"] (ev_var rfl) (ev_lenE (n := (t.length : Int)) (ev_var rfl) hp1 (by simp [vnats])) a1 T.cW T.nLength rfl (by decide +kernel) (by decide) fun G2 a2 b2 => ?_
      refine s_add ["words", "length"] (ev_var rfl) ev_c a2 T.cW T.nPassed rfl (by decide +kernel) (by decide) fun G3 a3 b3 => ?_
      have b13 := b2.trans b3
      have hlw3 := b13 _ _ nla hlw1
      have hts3 := hts1.exB a1 b13
      have hcl := NM.cut_len (t.map NM.sg) 0
      refine ret lw G3 flw (b1.trans b13) ⟨dx, ts, VbenCore.cut 0 (t.map NM.sg), 0, a3, hlw3, hts3, rfl, Nat.zero_le _, by omega, fun w hw => ⟨NM.cut_small (P := fun c => NM.sg c = c) (by decide) _ 0 (fun c hc => ?_) w hw, ?_⟩⟩
      · obtain ⟨c, _, rfl⟩ := List.mem_map.mp hc
        unfold NM.sg
        repeat' split
        all_goals omega
      · have := NM.cut_wlen _ _ w hw
        omega
end
end N
set_option Elab.async false
set_option linter.all false
set_option maxRecDepth 100000
set_option maxHeartbeats 4000000
namespace N
open PySem PySem.Spec PyProof.Rows L2 Evl
open NM (vI FOk)
open VbenCore (Word placeOf must natOf isName)
open Vbenaf (numIn valueIn holesIn namesIn lineIn linesIn readField)
/-! ### what is read keeps a field's bounds -/
theorem let_ne : Vbenaf.W "let" ≠ [] := W_ne (by decide +kernel)
theorem at_ne : Vbenaf.W "at" ≠ [] := W_ne (by decide +kernel)
theorem lineIn_hd (f : Fld) (n : Nat) (r : List Word) : lineIn f n r =
    if hd r = Vbenaf.W "let" then (if 30 ≤ f.lets.length then .error (placeOf n r) else letE f n r.tail >>= fun x => .ok ({ f with lets := f.lets ++ [x.1] }, x.2))
    else if hd r = Vbenaf.W "at" then atE f n r.tail >>= fun x => .ok ({ f with table := f.table.set x.1.1 (some x.1.2) }, x.2)
    else .error (placeOf n r) := by
  cases r with
  | nil =>
    have e1 : ¬ hd [] = Vbenaf.W "let" := fun h => let_ne (show [] = _ from h).symm
    have e2 : ¬ hd [] = Vbenaf.W "at" := fun h => at_ne (show [] = _ from h).symm
    rw [if_neg e1, if_neg e2]
    rfl
  | cons w r =>
    show (if w.2 = Vbenaf.W "let" then _ else _) = (if w.2 = Vbenaf.W "let" then _ else _)
    by_cases h1 : w.2 = Vbenaf.W "let"
    · rw [if_pos h1, if_pos h1]
      by_cases h2 : 30 ≤ f.lets.length
      · rw [if_pos h2]
        exact if_pos h2
      · rw [if_neg h2]
        refine Eq.trans (if_neg h2) ?_
        unfold letE
        show _ = (valueIn f n r >>= _) >>= _
        cases valueIn f n r with
        | error p => rfl
        | ok x =>
          obtain ⟨a, r1⟩ := x
          show (valueIn f n r1 >>= _) = ((valueIn f n r1 >>= _) >>= _ : Except Nat _)
          cases valueIn f n r1 with
          | error p => rfl
          | ok y =>
            obtain ⟨b, r2⟩ := y
            show (if a = b ∨ f.lets.contains (a, b) = true then _ else _) = ((if a = b ∨ f.lets.contains (a, b) = true then _ else _) >>= _ : Except Nat _)
            split
            · rfl
            · rfl
    · rw [if_neg h1, if_neg h1]
      show (if w.2 = Vbenaf.W "at" then _ else _) = (if w.2 = Vbenaf.W "at" then _ else _)
      by_cases h2 : w.2 = Vbenaf.W "at"
      · rw [if_pos h2, if_pos h2]
        unfold atE
        show (holesIn f n f.holes 0 0 r >>= _) = ((holesIn f n f.holes 0 0 r >>= _) >>= _ : Except Nat _)
        cases holesIn f n f.holes 0 0 r with
        | error p => rfl
        | ok x =>
          obtain ⟨s, r1⟩ := x
          show (if (Vbenaf.valueOf f s).isSome = true then _ else _) = (atRest f n (s, r1) >>= _ : Except Nat _)
          unfold atRest
          split
          · rfl
          · show (must n (Vbenaf.W "is") r1 >>= _) = ((must n (Vbenaf.W "is") r1 >>= _) >>= _ : Except Nat _)
            cases must n (Vbenaf.W "is") r1 with
            | error p => rfl
            | ok r2 =>
              show (valueIn f n r2 >>= _) = ((valueIn f n r2 >>= _) >>= _ : Except Nat _)
              cases valueIn f n r2 with
              | error p => rfl
              | ok y => rfl
      · rw [if_neg h2, if_neg h2]
        rfl
theorem valueIn_ok {f : Fld} {n : Nat} {r r' : List Word} {i : Nat} (h : valueIn f n r = .ok (i, r')) : i < f.values.length ∧ r'.length < r.length := by
  cases r with
  | nil => cases h
  | cons w r =>
    have h : (match f.values.findIdx? fun x => x == w.2 with
      | some i => Except.ok (i, r)
      | none => .error w.1 : Except Nat (Nat × List Word)) = .ok (i, r') := h
    cases hx : f.values.findIdx? fun x => x == w.2 with
    | none => rw [hx] at h; cases h
    | some j =>
      rw [hx] at h
      cases h
      rw [List.findIdx?_eq_some_iff_findIdx_eq] at hx
      exact ⟨hx.1, Nat.lt_succ_self _⟩
theorem letE_ok {f : Fld} {n : Nat} {r r' : List Word} {p : Nat × Nat} (h : letE f n r = .ok (p, r')) : p.1 < f.values.length ∧ p.2 < f.values.length ∧ p.1 ≠ p.2 ∧ r'.length ≤ r.length := by
  unfold letE at h
  cases h1 : valueIn f n r with
  | error q => rw [h1] at h; cases h
  | ok x =>
    obtain ⟨a, r1⟩ := x
    rw [h1] at h
    have h : (valueIn f n r1 >>= fun (x : Nat × List Word) => if a = x.1 ∨ f.lets.contains (a, x.1) = true then Except.error (placeOf n r1) else pure ((a, x.1), x.2)) = .ok (p, r') := h
    cases h2 : valueIn f n r1 with
    | error q => rw [h2] at h; cases h
    | ok y =>
      obtain ⟨b, r2⟩ := y
      rw [h2] at h
      have h : (if a = b ∨ f.lets.contains (a, b) = true then Except.error (placeOf n r1) else pure ((a, b), r2) : Except Nat _) = .ok (p, r') := h
      by_cases hc : a = b ∨ f.lets.contains (a, b) = true
      · rw [if_pos hc] at h; cases h
      · rw [if_neg hc] at h
        cases h
        have q1 := valueIn_ok h1
        have q2 := valueIn_ok h2
        exact ⟨q1.1, q2.1, fun z => hc (.inl z), by omega⟩
theorem holesIn_ok {f : Fld} {n : Nat} : ∀ {g lo s : Nat} {r r' : List Word} {s' : Nat}, holesIn f n g lo s r = .ok (s', r') → s < 2 ^ lo → lo ≤ f.holes → s' < 2 ^ f.holes ∧ r'.length ≤ r.length
  | 0, lo, s, r, r', s', h, hs, hl => by
    cases h
    exact ⟨Nat.lt_of_lt_of_le hs (Nat.pow_le_pow_right (by decide) hl), Nat.le_refl _⟩
  | g + 1, lo, s, r, r', s', h, hs, hl => by
    unfold Vbenaf.holesIn at h
    by_cases hc : VbenCore.ahead (Vbenaf.W "is") r = true
    · rw [if_pos hc] at h
      cases h
      exact ⟨Nat.lt_of_lt_of_le hs (Nat.pow_le_pow_right (by decide) hl), Nat.le_refl _⟩
    · rw [if_neg hc] at h
      cases r with
      | nil => cases h
      | cons w r =>
        have h : (match natOf w.2 with
          | some v => if lo ≤ v ∧ v < f.holes then holesIn f n g (v + 1) (s + 2 ^ v) r else .error w.1
          | none => .error w.1) = .ok (s', r') := h
        cases hn : natOf w.2 with
        | none => rw [hn] at h; cases h
        | some v =>
          rw [hn] at h
          have h : (if lo ≤ v ∧ v < f.holes then holesIn f n g (v + 1) (s + 2 ^ v) r else .error w.1) = .ok (s', r') := h
          by_cases hv : lo ≤ v ∧ v < f.holes
          · rw [if_pos hv] at h
            have p1 : 2 ^ lo ≤ 2 ^ v := Nat.pow_le_pow_right (by decide) hv.1
            have p2 : (2 : Nat) ^ (v + 1) = 2 ^ v + 2 ^ v := by rw [Nat.pow_succ]; omega
            have q := holesIn_ok h (by omega) (by omega)
            exact ⟨q.1, Nat.le_succ_of_le q.2⟩
          · rw [if_neg hv] at h
            cases h
theorem must_len {n : Nat} {b : List Nat} {r r' : List Word} (h : must n b r = .ok r') : r'.length < r.length := by
  cases r with
  | nil => cases h
  | cons w r =>
    have h : (if w.2 = b then .ok r else .error w.1 : Except Nat _) = .ok r' := h
    by_cases hc : w.2 = b
    · rw [if_pos hc] at h
      cases h
      exact Nat.lt_succ_self _
    · rw [if_neg hc] at h
      cases h
theorem atE_ok {f : Fld} {n : Nat} {r r' : List Word} {p : Nat × Nat} (h : atE f n r = .ok (p, r')) : p.1 < Vbenaf.states f ∧ p.2 < f.values.length ∧ r'.length ≤ r.length := by
  unfold atE at h
  cases h1 : holesIn f n f.holes 0 0 r with
  | error q => rw [h1] at h; cases h
  | ok x =>
    obtain ⟨s, r1⟩ := x
    rw [h1] at h
    have q1 := holesIn_ok h1 (by decide) (Nat.zero_le _)
    have h : atRest f n (s, r1) = .ok (p, r') := h
    unfold atRest at h
    by_cases hc : (Vbenaf.valueOf f s).isSome = true
    · rw [if_pos hc] at h; cases h
    · rw [if_neg hc] at h
      have h : (must n (Vbenaf.W "is") r1 >>= fun ws => valueIn f n ws >>= fun (x : Nat × List Word) => pure ((s, x.1), x.2)) = .ok (p, r') := h
      cases h2 : must n (Vbenaf.W "is") r1 with
      | error q => rw [h2] at h; cases h
      | ok r2 =>
        rw [h2] at h
        have h : (valueIn f n r2 >>= fun (x : Nat × List Word) => pure ((s, x.1), x.2)) = .ok (p, r') := h
        cases h3 : valueIn f n r2 with
        | error q => rw [h3] at h; cases h
        | ok y =>
          rw [h3] at h
          cases h
          have q2 := must_len h2
          have q3 := valueIn_ok h3
          exact ⟨q1.1, q3.1, by have := q1.2; have := q3.2; omega⟩
theorem FOk.addLet {f : Fld} (ok : FOk f) {n : Nat} {r r' : List Word} {p : Nat × Nat} (h : letE f n r = .ok (p, r')) (hl : ¬ 30 ≤ f.lets.length) : FOk { f with lets := f.lets ++ [p] } := by
  have q := letE_ok h
  refine ⟨⟨ok.h1, ok.h6, ok.tl, ok.v8, ok.tv, fun x hx => ?_, ?_⟩, ok.nm, ok.nd⟩
  · rcases List.mem_append.mp hx with hx | hx
    · exact ok.lv x hx
    · rw [List.mem_singleton] at hx
      subst hx
      exact ⟨q.1, q.2.1, q.2.2.1⟩
  · show (f.lets ++ [p]).length ≤ 30
    rw [List.length_append]
    simp
    omega
theorem FOk.setAt {f : Fld} (ok : FOk f) {n : Nat} {r r' : List Word} {p : Nat × Nat} (h : atE f n r = .ok (p, r')) : FOk { f with table := f.table.set p.1 (some p.2) } := by
  have q := atE_ok h
  refine ⟨⟨ok.h1, ok.h6, ?_, ok.v8, fun x hx => ?_, ok.lv, ok.ll⟩, ok.nm, ok.nd⟩
  · show (f.table.set p.1 (some p.2)).length = _
    rw [List.length_set]
    exact ok.tl
  · rcases List.mem_or_eq_of_mem_set hx with hx | hx
    · exact ok.tv x hx
    · rw [Option.some.inj hx]
      exact q.2.1
theorem namesIn_ok {n : Nat} : ∀ {g : Nat} {l l' : List (List Nat)} {r r' : List Word}, namesIn n g l r = .ok (l', r') → (∀ x ∈ l, isName x = true ∧ x ≠ Vbenaf.W "is") → l.Nodup → (∀ x ∈ l', isName x = true ∧ x ≠ Vbenaf.W "is") ∧ l'.Nodup ∧ l'.length ≤ l.length + g
  | 0, l, l', r, r', h, h1, h2 => by
    unfold Vbenaf.namesIn at h
    by_cases hc : Vbenaf.ends r = true
    · rw [if_pos hc] at h
      cases h
      exact ⟨h1, h2, Nat.le_refl _⟩
    · rw [if_neg hc] at h
      cases h
  | g + 1, l, l', r, r', h, h1, h2 => by
    unfold Vbenaf.namesIn at h
    by_cases hc : Vbenaf.ends r = true ∧ l.isEmpty = false
    · rw [if_pos hc] at h
      cases h
      exact ⟨h1, h2, by omega⟩
    · rw [if_neg hc] at h
      cases r with
      | nil => cases h
      | cons w r =>
        have h : (if isName w.2 = true ∧ l.contains w.2 = false ∧ w.2 ≠ Vbenaf.W "is" then namesIn n g (l ++ [w.2]) r else .error w.1) = .ok (l', r') := h
        by_cases hd : isName w.2 = true ∧ l.contains w.2 = false ∧ w.2 ≠ Vbenaf.W "is"
        · rw [if_pos hd] at h
          have q := namesIn_ok h (fun x hx => by
            rcases List.mem_append.mp hx with hx | hx
            · exact h1 x hx
            · rw [List.mem_singleton] at hx
              subst hx
              exact ⟨hd.1, hd.2.2⟩) (by
            rw [List.nodup_append]
            refine ⟨h2, List.nodup_cons.mpr ⟨by simp, List.nodup_nil⟩, fun a ha b hb e => ?_⟩
            rw [List.mem_singleton] at hb
            subst hb
            subst e
            have z := List.contains_iff_mem.mpr ha
            rw [hd.2.1] at z
            cases z)
          refine ⟨q.1, q.2.1, ?_⟩
          have := q.2.2
          rw [List.length_append] at this
          simp at this
          omega
        · rw [if_neg hd] at h
          cases h
theorem numIn_ok {n lo hi v : Nat} {r r' : List Word} (h : numIn n lo hi r = .ok (v, r')) : lo ≤ v ∧ v ≤ hi := by
  rw [numIn_hd] at h
  cases hx : natOf (hd r) with
  | none => rw [hx] at h; cases h
  | some u =>
    rw [hx] at h
    have h : (if lo ≤ u ∧ u ≤ hi then .ok (u, r.tail) else .error (placeOf n r) : Except Nat _) = .ok (v, r') := h
    by_cases hc : lo ≤ u ∧ u ≤ hi
    · rw [if_pos hc] at h
      cases h
      exact hc
    · rw [if_neg hc] at h
      cases h
/-- a field without lets and values -/
theorem FOk.bare {h : Nat} {l : List (List Nat)} (h1 : 1 ≤ h) (h6 : h ≤ 6) (h8 : l.length ≤ 8) (hn : ∀ x ∈ l, isName x = true ∧ x ≠ Vbenaf.W "is") (nd : l.Nodup) : FOk { holes := h, values := l, lets := [], table := List.replicate (2 ^ h) none } :=
  ⟨⟨h1, h6, by show (List.replicate (2 ^ h) none).length = 2 ^ h; simp, h8, fun w hw => (by cases (List.mem_replicate.mp hw).2), fun p hp => (by cases hp), Nat.zero_le _⟩, hn, nd⟩
/-- one line is read -/
theorem linesIn_step {n g : Nat} {f : Fld} {r : List Word} (h : r ≠ []) : linesIn n (g + 1) f r = if hd r = [10] then lineIn f n r.tail >>= fun x => linesIn n g x.1 x.2 else .error (placeOf n r) := by
  cases r with
  | nil => exact absurd rfl h
  | cons w r =>
    show (must n [10] (w :: r) >>= fun ws => lineIn f n ws >>= fun (x : Fld × List Word) => linesIn n g x.1 x.2) = _
    show ((if w.2 = [10] then .ok r else .error w.1 : Except Nat _) >>= fun ws => lineIn f n ws >>= fun (x : Fld × List Word) => linesIn n g x.1 x.2) = if w.2 = [10] then lineIn f n r >>= fun x => linesIn n g x.1 x.2 else .error w.1
    by_cases hc : w.2 = [10]
    · rw [if_pos hc, if_pos hc]
      rfl
    · rw [if_neg hc, if_neg hc]
      rfl
theorem linesIn_nil {n g : Nat} {f : Fld} : linesIn n (g + 1) f [] = .ok f := rfl
end N
namespace N
open PySem PySem.Spec PyProof.Rows L2 Evl
open NM (vI FOk)
open VbenCore (Word placeOf must natOf isName)
open Vbenaf (numIn valueIn holesIn namesIn lineIn linesIn readField)
theorem readField_eq (t : List Nat) : readField t = (do let ws ← must t.length (Vbenaf.W "holes") (VbenCore.cut 0 (t.map NM.sg)); numIn t.length 1 6 ws) >>= fun (x : Nat × List Word) => must t.length [10] x.2 >>= fun ws =>
    (do let ws ← must t.length (Vbenaf.W "values") ws; namesIn t.length 8 [] ws) >>= fun (y : List (List Nat) × List Word) => linesIn t.length (y.2.length + 1) { holes := x.1, values := y.1, lets := [], table := List.replicate (2 ^ x.1) none } y.2 := by
  rw [← NM.readField_sg]
  unfold Vbenaf.readField
  rw [List.length_map]
  generalize VbenCore.cut 0 (t.map NM.sg) = r
  show (must t.length (Vbenaf.W "holes") r >>= _) = ((must t.length (Vbenaf.W "holes") r >>= fun ws => numIn t.length 1 6 ws) >>= _ : Except Nat _)
  cases must t.length (Vbenaf.W "holes") r with
  | error p => rfl
  | ok r =>
    show (numIn t.length 1 6 r >>= _) = (numIn t.length 1 6 r >>= _ : Except Nat _)
    cases numIn t.length 1 6 r with
    | error p => rfl
    | ok x =>
      obtain ⟨h, r⟩ := x
      show (must t.length [10] r >>= _) = (must t.length [10] r >>= _ : Except Nat _)
      cases must t.length [10] r with
      | error p => rfl
      | ok r =>
        show (must t.length (Vbenaf.W "values") r >>= _) = ((must t.length (Vbenaf.W "values") r >>= fun ws => namesIn t.length 8 [] ws) >>= _ : Except Nat _)
        cases must t.length (Vbenaf.W "values") r with
        | error p => rfl
        | ok r => rfl
/-- made, and what its __init__ leaves -/
theorem ex_make {H H' : Hp} {x dx : Addr} {u o : HO} (nx : H x = none) (nd : H dx = none) (e : ExB x (upd (upd H dx u) x o) H') : Ex H H' := fun b v hb => e b v (ne_of_none hb nx) (by
  rw [upd_ne (ne_of_none hb nx), upd_ne (ne_of_none hb nd)]
  exact hb)
theorem none_make {H : Hp} {x dx l : Addr} {u o : HO} (h : (upd (upd H dx u) x o) l = none) : H l = none := by
  by_cases h1 : l = x
  · rw [h1, upd_same] at h; cases h
  · rw [upd_ne h1] at h
    by_cases h2 : l = dx
    · rw [h2, upd_same] at h; cases h
    · rw [upd_ne h2] at h
      exact h
section
variable {K : PySem.W.Frag} {σ : L2.St} {H : Hp} {Q : VK} {CW CF : Addr}
theorem go_words {ta : TA} {p : Addr} {t : List Nat} (ha : EvA ta σ H [.ref p]) (hp : H p = some (.lst (vnats t))) (hl : t.length ≤ 2000) (hb : ∀ c ∈ t, c < 256)
    (h : ∀ a lw H', H a = none → Ex H H' → WAt CW H' a lw t.length (VbenCore.cut 0 (t.map NM.sg)) → Q (.ref a) H') : tMake CW (spW_init CW) [] E0 ta σ H Q :=
  ha H (Ex.refl _) _ fun H1 e1 a dx na nd nda => ⟨a, dx, p, t, rfl, upd_same, by
    rw [upd_ne (ne_of_none (e1 _ _ hp) na), upd_ne (ne_of_none (e1 _ _ hp) nd)]
    exact e1 _ _ hp, hl, hb, fun lw H' nlw e hW => ⟨rfl, h a lw H' (fresh_back e1 na) (e1.trans (ex_make na nd e)) hW⟩⟩
theorem q_words {D : Ends} {tz : TS} {i : Nat} {ta : TA} {p : Addr} {t : List Nat} (ha : EvA ta σ H [.ref p]) (hp : H p = some (.lst (vnats t))) (hl : t.length ≤ 2000) (hb : ∀ c ∈ t, c < 256)
    (h : ∀ a lw H', H a = none → Ex H H' → WAt CW H' a lw t.length (VbenCore.cut 0 (t.map NM.sg)) → tz D (σ.set i (some (.ref a))) H') : tSeq (tAsg (tMake CW (spW_init CW) [] E0 ta) (gName i)) tz D σ H := go_words (Q := fun v H' => tz D (σ.set i (some v)) H') ha hp hl hb h
theorem ex_made {H : Hp} {x dx : Addr} {u o : HO} (nx : H x = none) (nd : H dx = none) : Ex H (upd (upd H dx u) x o) := fun b v hb => by
  rw [upd_ne (ne_of_none hb nx), upd_ne (ne_of_none hb nd)]
  exact hb
theorem go_field {ta : TA} {n0 l0 t0 : Addr} {f : Fld} (ha : EvA ta σ H [.int (f.holes : Int), .ref n0, .ref l0, .ref t0]) (hn : H n0 = some (.lst (vstrs f.values))) (hl : LetsAt H l0 f.lets) (ht : TabAt H t0 f.table) (ok : NM.FBk f)
    (h : ∀ q H', H q = none → Ex H H' → FldW CF (lessL H H') q f (NM.rkAll f) (NM.bsAll f) → Q (.ref q) H') : tMake CF (spF_init K CF) [] E0 ta σ H Q :=
  ha H (Ex.refl _) _ fun H1 e1 a dx na nd nda => by
    obtain ⟨ps, hl1, hl2⟩ := hl
    have em := e1.trans (ex_made (u := .own a) (o := .ins CF dx []) na nd)
    exact ⟨a, dx, n0, l0, t0, ps, f, rfl, upd_same, em _ _ hn, em _ _ hl1, hl2.ex em, em _ _ ht, ok, fun H' A e hL _ => ⟨rfl, h a H' (fresh_back e1 na) (e1.trans (ex_make na nd e)) ⟨A, hL.ex (lessL_old (e1.trans (ex_made na nd)))⟩⟩⟩
end
/-- faults are told from the start -/
def FltO (CFa : Addr) (H : Hp) (E : XK) (p : Nat) : Prop := ∀ d H', H d = none → Ex H H' → H' d = some (.xd (fFault (p : Int))) → E (.ref CFa) (some d) H'
theorem ex_B {H H1 H2 : Hp} {a : Addr} (e : Ex H H1) (na : H a = none) (d : ExB a H1 H2) : Ex H H2 := fun b v hb => d b v (ne_of_none hb na) (e b v hb)
theorem ex_2 {H H1 H2 : Hp} {a b : Addr} (e : Ex H H1) (na : H a = none) (nb : H b = none) (d : Ex2 a b H1 H2) : Ex H H2 := fun c v hc => d c v (ne_of_none hc na) (ne_of_none hc nb) (e c v hc)
theorem FltO.at {CFa a : Addr} {H H1 : Hp} {E : XK} {p : Nat} (h : FltO CFa H E p) (e : Ex H H1) (na : H a = none) : Flt CFa a H1 E p := fun d H' nd e' hx => h d H' (fresh_back e nd) (ex_B e na e') hx
theorem LetsAt.ex2 {H G : Hp} {a tt ll C dx : Addr} {fs : List (Str × V)} {xs : List V} {ls : List (Nat × Nat)} (h : LetsAt H ll ls) (ha : H a = some (.ins C dx fs)) (ht : H tt = some (.lst xs)) (nlt : ll ≠ tt) (e : Ex2 a tt H G) : LetsAt G ll ls := by
  obtain ⟨ps, h1, h2⟩ := h
  refine ⟨ps, e _ _ (ne_of h1 ha (by intro z; cases z)) nlt h1, ?_⟩
  clear h1
  have key : ∀ {ps : List Addr} {ls : List (Nat × Nat)}, Tups H ps ls → Tups G ps ls := by
    intro ps
    induction ps with
    | nil => intro ls h; cases ls with
      | nil => trivial
      | cons _ _ => exact h.elim
    | cons q ps ih => intro ls h; cases ls with
      | nil => exact h.elim
      | cons l ls => exact ⟨e _ _ (ne_of h.1 ha (by intro z; cases z)) (ne_of h.1 ht (by intro z; cases z)) h.1, ih h.2⟩
  exact key h2
/-- a field is read, or a fault is raised -/
def RdF (CF CFa : Addr) (H : Hp) (Q : VK) (E : XK) : Except Nat Fld → Prop
  | .ok f => ∀ q H', H q = none → Ex H H' → FOk f → FldW CF (lessL H H') q f (NM.rkAll f) (NM.bsAll f) → Q (.ref q) H'
  | .error p => FltO CFa H E p
end N
set_option Elab.async false
set_option linter.all false
set_option maxRecDepth 100000
set_option maxHeartbeats 4000000
namespace N
open PySem PySem.Spec PyProof.Rows L2 Evl
open NM (vI FOk)
open VbenCore (Word placeOf must natOf isName)
open Vbenaf (numIn valueIn holesIn namesIn lineIn linesIn readField)
section
variable {P : Program} {w : World} {K : PySem.W.Frag} {mg : Str → Option Value} {base : Heap} {CW CFa CF : Addr}
-- def read_field(codes):
--     words = Words(codes)
--     holes = read_holes(words)
--     words.take(words.word() == LINE_END)
--     names = read_names(words)
--     lets = []
--     table = [NO_VALUE] * (1 << holes)
--     while not words.ended():
--         words.take(words.word() == LINE_END)
--         word = words.word()
--         words.take(word == 'at' or (word == 'let' and len(lets) < MOST_LETS))
--         if word == 'let':
--             read_let(words, names, lets)
--         else:
--             read_at(words, holes, names, table)
--     return Field(holes, names, lets, table)
-- slots 0:codes 1:words 2:holes 3:names 4:lets 5:table 6:word
abbrev sread_field : Stmt := top 36
theorem scread_field : FnScope ["codes", "words", "holes", "names", "lets", "table", "word"] ["codes"] (defScope sread_field) := ⟨rfl, rfl, rfl, by decide +kernel, rfl, by decide +kernel, by decide +kernel⟩
def sp_read_field (CF CFa : Addr) : Sp := fun vs H Q E => ∃ (p : Addr) (t : List Nat), vs = [.ref p] ∧ H p = some (.lst (vnats t)) ∧ t.length ≤ 2000 ∧ (∀ c ∈ t, c < 256) ∧ RdF CF CFa H Q E (readField t)
theorem ok_read_field {f : Addr} {fd : FuncData} (F : Fun K "read_field" "read_field" sread_field f fd) (T : TxtR mg) (k_Words : Mak P w K mg base CX0 2 "Words" CW (spW_init CW)) (k_Field : Mak P w K mg base CX0 5 "Field" CF (spF_init K CF)) (m_Words_word : Met P w K mg base CX0 2 CW "word" (spW_word CW)) (m_Words_ended : Met P w K mg base CX0 1 CW "ended" (spW_ended CW)) (m_Words_take : Met P w K mg base (L2.CX P w) 4 CW "take" (spW_take CW CFa))
    (c_read_holes : Cal P w K mg base (L2.CX P w) 6 "read_holes" (sp_read_holes CW CFa)) (c_read_names : Cal P w K mg base (L2.CX P w) 5 "read_names" (sp_read_names CW CFa)) (c_read_let : Cal P w K mg base (L2.CX P w) 6 "read_let" (sp_read_let CW CFa)) (c_read_at : Cal P w K mg base (L2.CX P w) 6 "read_at" (sp_read_at CW CFa)) : FnOk P w K mg base (L2.CX P w) 7 f fd ["codes"] (sp_read_field CF CFa) := by
  refine F.okX scread_field (fun vs H Q E h => ?_) (fun cdv A outer s H vs Q E hr h => ?_)
  · obtain ⟨p, t, rfl, _⟩ := h
    rfl
  · obtain ⟨p, t, rfl, hp, hlen, hb, hR⟩ := h
    refine ⟨_, (pss_cons (ps_set (i := 1) scread_field.nd rfl (Or.inl rfl) (pmk k_Words hr (by decide) (by rfl) (pa_cons (pv 0) pa_nil)))
      (pss_cons (ps_set (i := 2) scread_field.nd rfl (Or.inl rfl) (pcS c_read_holes hr (by decide) (takes_of rfl rfl rfl rfl) (by rfl) (pa_cons (pv 1) pa_nil)))
      (pss_cons (ps_expr (pmtS m_Words_take hr (by decide) (takes_of rfl rfl rfl rfl) (pv 1) (pa_cons (pe_cmpR op_eq (pmt0 m_Words_word hr (by decide) (pv 1)) (pgs T.LINE_END) (nomark _)) pa_nil)))
      (pss_cons (ps_set (i := 3) scread_field.nd rfl (Or.inl rfl) (pcS c_read_names hr (by decide) (takes_of rfl rfl rfl rfl) (by rfl) (pa_cons (pv 1) pa_nil)))
      (pss_cons (ps_set (i := 4) scread_field.nd rfl (Or.inl rfl) (pe_lst pa_nil))
      (pss_cons (ps_set (i := 5) scread_field.nd rfl (Or.inl rfl) (pe_op op_rep (pe_lst (pa_cons (pgi T.NO_VALUE) pa_nil)) (pe_op op_shl pe_int (pv 2))))
      (pss_cons (ps_while (passes_of rfl) (pt_not (pt_val (pmt0 m_Words_ended hr (by decide) (pv 1))))
        (pss_cons (ps_expr (pmtS m_Words_take hr (by decide) (takes_of rfl rfl rfl rfl) (pv 1) (pa_cons (pe_cmpR op_eq (pmt0 m_Words_word hr (by decide) (pv 1)) (pgs T.LINE_END) (nomark _)) pa_nil)))
      (pss_cons (ps_set (i := 6) scread_field.nd rfl (Or.inl rfl) (pmt0 m_Words_word hr (by decide) (pv 1)))
      (pss_cons (ps_expr (pmtS m_Words_take hr (by decide) (takes_of rfl rfl rfl rfl) (pv 1) (pa_cons (pe_or (pe_cmpR op_eq (pv 6) pe_str (nomark _)) (pe_one (pe_and (pe_cmpR op_eq (pv 6) pe_str (nomark _)) (pe_one (pe_cmpR op_lt (plen K T.len (pv 4)) (pgi T.MOST_LETS) (nomark _)))))) pa_nil)))
      (pss_one (ps_if (pt_cmpR op_eq (pv 6) pe_str (nomark _))
        (pss_one (ps_expr (pcS c_read_let hr (by decide) (takes_of rfl rfl rfl rfl) (by rfl) (pa_cons (pv 1) (pa_cons (pv 3) (pa_cons (pv 4) pa_nil))))))
        (pss_one (ps_expr (pcS c_read_at hr (by decide) (takes_of rfl rfl rfl rfl) (by rfl) (pa_cons (pv 1) (pa_cons (pv 2) (pa_cons (pv 3) (pa_cons (pv 5) pa_nil)))))))))))))
      (pss_one (ps_ret (pmk k_Field hr (by decide) (by rfl) (pa_cons (pv 2) (pa_cons (pv 3) (pa_cons (pv 4) (pa_cons (pv 5) pa_nil)))))))))))))), ?_⟩
    rw [readField_eq] at hR
    generalize hn : t.length = n at hR
    refine q_words (ea_one (ev_var rfl)) hp hlen hb fun a lw H1 na e1 hW1 => ?_
    rw [hn] at hW1
    generalize VbenCore.cut 0 (t.map NM.sg) = r at hR hW1
    -- how many holes
    refine go_callS (ea_one (ev_var rfl)) fun H2 e2 => ⟨a, lw, n, r, rfl, hW1.ex' e2, ?_⟩
    have e02 := e1.trans e2
    cases h1 : (do let ws ← must n (Vbenaf.W "holes") r; numIn n 1 6 ws : Except Nat (Nat × List Word)) with
    | error q => rw [h1] at hR; exact FltO.at hR e02 na
    | ok x =>
      obtain ⟨h, r1⟩ := x
      rw [h1] at hR
      have hh : 1 ≤ h ∧ h ≤ 6 := by
        cases hm : must n (Vbenaf.W "holes") r with
        | error q => rw [hm] at h1; cases h1
        | ok r' => rw [hm] at h1; exact numIn_ok h1
      replace hR : RdF CF CFa H Q E (must n [10] r1 >>= fun ws => (do let ws ← must n (Vbenaf.W "values") ws; namesIn n 8 [] ws) >>= fun (y : List (List Nat) × List Word) => linesIn n (y.2.length + 1) { holes := h, values := y.1, lets := [], table := List.replicate (2 ^ h) none } y.2) := hR
      intro H3 e3 hW3
      have e03 := ex_B e02 na e3
      -- the line's end
      have ne10 : ([10] : List Nat) ≠ [] := by decide
      rw [must_hd ne10] at hR
      refine go_take (b := decide (hd r1 = [10])) hW3 (ev_var rfl) (ev_is (ev_op (ev_word hW3 (ev_var rfl)) ev_c (rv_eq rfl)) (bl_word _ _)) (fun hb => hd_ne ne10 (of_decide_eq_true hb)) (fun hb H4 e4 hW4 => ?_) (fun hb => ?_)
      rotate_left
      · rw [if_neg (of_decide_eq_false hb)] at hR
        exact FltO.at hR e03 na
      · rw [if_pos (of_decide_eq_true hb)] at hR
        have e04 := ex_B e03 na e4
        replace hR : RdF CF CFa H Q E ((do let ws ← must n (Vbenaf.W "values") r1.tail; namesIn n 8 [] ws) >>= fun (y : List (List Nat) × List Word) => linesIn n (y.2.length + 1) { holes := h, values := y.1, lets := [], table := List.replicate (2 ^ h) none } y.2) := hR
        refine go_callS (ea_one (ev_var rfl)) fun H5 e5 => ⟨a, lw, n, r1.tail, rfl, hW4.ex' e5, ?_⟩
        have e05 := e04.trans e5
        cases h2 : (do let ws ← must n (Vbenaf.W "values") r1.tail; namesIn n 8 [] ws : Except Nat (List (List Nat) × List Word)) with
        | error q => rw [h2] at hR; exact FltO.at hR e05 na
        | ok y =>
          obtain ⟨l, r2⟩ := y
          rw [h2] at hR
          replace hR : RdF CF CFa H Q E (linesIn n (r2.length + 1) { holes := h, values := l, lets := [], table := List.replicate (2 ^ h) none } r2) := hR
          have hl : (∀ x ∈ l, isName x = true ∧ x ≠ Vbenaf.W "is") ∧ l.Nodup ∧ l.length ≤ 8 := by
            cases hm : must n (Vbenaf.W "values") r1.tail with
            | error q => rw [hm] at h2; cases h2
            | ok r' => rw [hm] at h2; exact (namesIn_ok h2 (fun x hx => (by cases hx)) List.nodup_nil)
          have hfok := FOk.bare hh.1 hh.2 hl.2.2 hl.1 hl.2.1
          have hst : Vbenaf.states { holes := h, values := l, lets := [], table := List.replicate (2 ^ h) none } = 2 ^ h := rfl
          have n64 := hfok.n64
          rw [hst] at n64
          intro nm H6 nnm e6 hW6 hn6
          have e06 := ex_B e05 na e6
          -- lets, table
          refine q_asgL (el_lst ea_nil (by decide)) fun ll H7 nll e7 hl7 => ?_
          refine q_asgL (xs := List.replicate (2 ^ h) (V.int (-1))) (by
            rw [← flat_rep]
            exact el_rep (n := 2 ^ h) (el_lst (ea_one (ev_c (v := V.int (-1)))) (by decide)) (fun H1 e1 => ev_is (ev_op ev_c (ev_var rfl) (rv_I (C := CPow) ⟨by omega, by omega, by decide⟩)) (by
              show V.int (1 * 2 ^ ((h : Int)).toNat) = V.int ((2 ^ h : Nat) : Int)
              rw [Int.toNat_natCast, Int.one_mul]
              push_cast
              rfl)) (by simp; omega) (by omega)) fun tt H8 ntt e8 ht8 => ?_
          have e67 := e7
          have e08 := e06.trans (e7.trans e8)
          have hW8 := hW6.ex' (e7.trans e8)
          obtain ⟨lxs, hlw6⟩ := hW6.lst
          have nl1 : ll ≠ lw := Ne.symm (ne_of_none hlw6 nll)
          have nt1 : tt ≠ lw := Ne.symm (ne_of_none (e7 _ _ hlw6) ntt)
          have nml : nm ≠ ll := ne_of_none hn6 nll
          have nmt : nm ≠ tt := ne_of_none (e7 _ _ hn6) ntt
          have nlt : ll ≠ tt := ne_of_none hl7 ntt
          have nll0 := fresh_back e06 nll
          have ntt0 := fresh_back (e06.trans e7) ntt
          have hl8 := e8 _ _ hl7
          have hn8 := e8 _ _ (e7 _ _ hn6)
          have hr0 := hR
          have ht8' : TabAt H8 tt (List.replicate (2 ^ h) none) := by
            unfold TabAt
            rw [List.map_replicate]
            exact ht8
          show tSeq (tWhile _ _) _ _ [some (.ref p), some (.ref a), some (.int (h : Int)), some (.ref nm), some (.ref ll), some (.ref tt), none] _
          refine q_while (fun m σ' H' => ∃ (f : Fld) (r : List Word) (v6 : Option V) (g : Nat), σ' = [some (.ref p), some (.ref a), some (.int (f.holes : Int)), some (.ref nm), some (.ref ll), some (.ref tt), v6] ∧ FOk f ∧ Ex H H' ∧ WAt CW H' a lw n r ∧ H' nm = some (.lst (vstrs f.values)) ∧ LetsAt H' ll f.lets ∧ TabAt H' tt f.table ∧ r.length < g ∧ RdF CF CFa H Q E (linesIn n g f r) ∧ m = r.length)
            r2.length ⟨_, r2, none, r2.length + 1, rfl, hfok, e08, hW8, hn8, ⟨[], hl8, trivial⟩, ht8', Nat.lt_succ_self _, hR, rfl⟩ ?_
          clear hr0 hR hl8 hn8 ht8' ht8 hl7 hW8 e08 hfok hst n64
          rintro m σ' H' ⟨f, r3, v6, g, rfl, ok, e0, hW, hnm, hll, htt, hg, hR, rfl⟩
          obtain ⟨g, rfl⟩ : ∃ g', g = g' + 1 := ⟨g - 1, by omega⟩
          refine ⟨!r3.isEmpty, et_not (et_B (ev_ended hW (ev_var rfl))), fun hc H9 e9 => ?_, fun hc H9 e9 => ?_⟩
          · have hr3 : r3 ≠ [] := fun z => by rw [z] at hc; cases hc
            rw [linesIn_step hr3] at hR
            have hW9 := hW.ex' e9
            have e09 := e0.trans e9
            refine ⟨fun σ' H' => ∃ (f : Fld) (r : List Word) (v6 : Option V) (g : Nat), σ' = [some (.ref p), some (.ref a), some (.int (f.holes : Int)), some (.ref nm), some (.ref ll), some (.ref tt), v6] ∧ FOk f ∧ Ex H H' ∧ WAt CW H' a lw n r ∧ H' nm = some (.lst (vstrs f.values)) ∧ LetsAt H' ll f.lets ∧ TabAt H' tt f.table ∧ r.length < g ∧ RdF CF CFa H Q E (linesIn n g f r) ∧ r.length < r3.length, ?_, ?_⟩
            · rintro σ2 H2 ⟨f, r', v6', g', h1, h2, h3, h4, h5, h6, h7, h8, h9, h10⟩
              exact ⟨_, h10, f, r', v6', g', h1, h2, h3, h4, h5, h6, h7, h8, h9, rfl⟩
            · refine go_take (b := decide (hd r3 = [10])) hW9 (ev_var rfl) (ev_is (ev_op (ev_word hW9 (ev_var rfl)) ev_c (rv_eq rfl)) (bl_word _ _)) (fun hb => hd_ne ne10 (of_decide_eq_true hb)) (fun hb H10 e10 hW10 => ?_) (fun hb => ?_)
              rotate_left
              · rw [if_neg (of_decide_eq_false hb)] at hR
                exact FltO.at hR e09 na
              · rw [if_pos (of_decide_eq_true hb)] at hR
                have e010 := ex_B e09 na e10
                have e910 : ExB a H' H10 := (ExB.of e9).trans e10
                obtain ⟨dx, k, ha⟩ := hW.ins
                have nna : nm ≠ a := ne_of hnm ha (by intro z; cases z)
                have nta : tt ≠ a := ne_of htt ha (by intro z; cases z)
                have hnm10 := e910 _ _ nna hnm
                have htt10 : TabAt H10 tt f.table := e910 _ _ nta htt
                have hll10 := hll.exB ha e910
                generalize hr4 : r3.tail = r4 at hR hW10
                have l4 : r4.length < r3.length := by
                  rw [← hr4]
                  cases r3 with
                  | nil => exact absurd rfl hr3
                  | cons _ _ => exact Nat.lt_succ_self _
                refine q_asg (ev_word hW10 (ev_var rfl)) fun H11 e11 => ?_
                have hW11 := hW10.ex' e11
                have e011 := e010.trans e11
                have hnm11 := e11 _ _ hnm10
                have htt11 : TabAt H11 tt f.table := e11 _ _ htt10
                have hll11 := hll10.ex e11
                rw [lineIn_hd] at hR
                obtain ⟨ps, hps, htp⟩ := hll11
                have hpl := htp.len
                have nla : Vbenaf.W "let" ≠ Vbenaf.W "at" := by decide +kernel
                refine go_take (b := decide (hd r4 = Vbenaf.W "at") || (decide (hd r4 = Vbenaf.W "let") && decide (f.lets.length < 30))) hW11 (ev_var rfl) (ev_orV (ev_is (ev_op (ev_var rfl) ev_c (rv_eq rfl)) (bl_word _ _)) fun _ => ev_andV (ev_is (ev_op (ev_var rfl) ev_c (rv_eq rfl)) (bl_word _ _)) fun _ => ev_is (ev_op (ev_lenE (n := (f.lets.length : Int)) (ev_var rfl) hps (by rw [vrefs_len, hpl])) ev_c rv_I0) ?_) (fun hb z => ?_) (fun hb H12 e12 hW12 => ?_) (fun hb => ?_)
                · congr 1
                  rw [Bool.eq_iff_iff, decide_eq_true_eq, decide_eq_true_eq]
                  omega
                · subst z
                  rw [decide_eq_false (p := hd [] = Vbenaf.W "at") (fun h => at_ne (show [] = _ from h).symm), decide_eq_false (p := hd [] = Vbenaf.W "let") (fun h => let_ne (show [] = _ from h).symm)] at hb
                  cases hb
                · have e012 := ex_B e011 na e12
                  obtain ⟨dx11, k11, ha11⟩ := hW11.ins
                  have hnm12 := e12 _ _ nna hnm11
                  have htt12 : TabAt H12 tt f.table := e12 _ _ nta htt11
                  have hll12 : LetsAt H12 ll f.lets := LetsAt.exB ⟨ps, hps, htp⟩ ha11 e12
                  by_cases hlet : hd r4 = Vbenaf.W "let"
                  · have h30 : ¬ 30 ≤ f.lets.length := by
                      rw [hlet, decide_eq_false nla, decide_eq_true rfl, Bool.false_or, Bool.true_and, decide_eq_true_eq] at hb
                      omega
                    rw [if_pos hlet, if_neg h30] at hR
                    refine s_if (b := true) (et_is (et_test (ev_is (ev_op (ev_var rfl) ev_c (rv_eq rfl)) (bl_word _ _))) (decide_eq_true hlet)) (fun _ H13 e13 => ?_) (fun z => by cases z)
                    refine go_callS (ea_cons (ev_var rfl) (ea_two (ev_var rfl) (ev_var rfl))) fun H14 e14 => ?_
                    have e1214 := e13.trans e14
                    have e014 := e012.trans e1214
                    have hW14 := hW12.ex' e1214
                    have htt14 : TabAt H14 tt f.table := e1214 _ _ htt12
                    have hnm14 := e1214 _ _ hnm12
                    refine ⟨a, lw, nm, ll, n, f, r4.tail, rfl, hW14, hnm14, fun x hx => (ok.nm x hx).1, hll12.ex e1214, nl1, by have := ok.ll; omega, ?_⟩
                    cases hE : letE f n r4.tail with
                    | error q => rw [hE] at hR; exact FltO.at hR e014 na
                    | ok x =>
                      obtain ⟨pr, r5⟩ := x
                      rw [hE] at hR
                      have q5 := (letE_ok hE).2.2.2
                      have l5 : r5.length < r3.length := by
                        have : r4.tail.length ≤ r4.length := by rw [List.length_tail]; omega
                        omega
                      intro H15 e15 hW15 hll15
                      exact ⟨{ f with lets := f.lets ++ [pr] }, r5, _, g, rfl, FOk.addLet ok hE h30, ex_2 e014 na nll0 e15, hW15, e15 _ _ nna nml hnm14, hll15, e15 _ _ nta (Ne.symm nlt) htt14, by omega, hR, l5⟩
                  · have hat : hd r4 = Vbenaf.W "at" := by
                      rw [decide_eq_false hlet, Bool.false_and, Bool.or_false, decide_eq_true_eq] at hb
                      exact hb
                    rw [if_neg hlet, if_pos hat] at hR
                    refine s_if (b := false) (et_is (et_test (ev_is (ev_op (ev_var rfl) ev_c (rv_eq rfl)) (bl_word _ _))) (decide_eq_false hlet)) (fun z => by cases z) (fun _ H13 e13 => ?_)
                    refine go_callS (ea_cons (ev_var rfl) (ea_cons (ev_var rfl) (ea_two (ev_var rfl) (ev_var rfl)))) fun H14 e14 => ?_
                    have e1214 := e13.trans e14
                    have e014 := e012.trans e1214
                    have hW14 := hW12.ex' e1214
                    have htt14 : TabAt H14 tt f.table := e1214 _ _ htt12
                    have hnm14 := e1214 _ _ hnm12
                    have hll14 := hll12.ex e1214
                    obtain ⟨dx14, k14, ha14⟩ := hW14.ins
                    refine ⟨a, lw, nm, tt, n, f, r4.tail, rfl, hW14, hnm14, ok, htt14, nt1, ?_⟩
                    cases hE : atE f n r4.tail with
                    | error q => rw [hE] at hR; exact FltO.at hR e014 na
                    | ok x =>
                      obtain ⟨pr, r5⟩ := x
                      rw [hE] at hR
                      have q5 := (atE_ok hE).2.2
                      have l5 : r5.length < r3.length := by
                        have : r4.tail.length ≤ r4.length := by rw [List.length_tail]; omega
                        omega
                      intro H15 e15 hW15 htt15
                      exact ⟨{ f with table := f.table.set pr.1 (some pr.2) }, r5, _, g, rfl, FOk.setAt ok hE, ex_2 e014 na ntt0 e15, hW15, e15 _ _ nna nmt hnm14, hll14.ex2 ha14 htt14 nlt e15, htt15, by omega, hR, l5⟩
                · have h1 : ¬ hd r4 = Vbenaf.W "at" := fun z => by rw [decide_eq_true z, Bool.true_or] at hb; cases hb
                  have hR' : RdF CF CFa H Q E (.error (placeOf n r4)) := by
                    by_cases hlet : hd r4 = Vbenaf.W "let"
                    · have h30 : 30 ≤ f.lets.length := by
                        rw [decide_eq_false h1, decide_eq_true hlet, Bool.false_or, Bool.true_and, decide_eq_false_iff_not] at hb
                        omega
                      rw [if_pos hlet, if_pos h30] at hR
                      exact hR
                    · rw [if_neg hlet, if_neg h1] at hR
                      exact hR
                  exact FltO.at hR' e011 na
          · have hr3 : r3 = [] := by
              cases r3 with
              | nil => rfl
              | cons _ _ => cases hc
            subst hr3
            have e09 := e0.trans e9
            exact go_field (Q := Q) (ea_cons (ev_var rfl) (ea_cons (ev_var rfl) (ea_two (ev_var rfl) (ev_var rfl)))) (e9 _ _ hnm) (hll.ex e9) (e9 _ _ htt) ok fun q H10 nq e10 hF => hR q H10 (fresh_back e09 nq) (e09.trans e10) ok (hF.ex (lessL_old e09))
end
end N
set_option Elab.async false
set_option linter.all false
set_option maxRecDepth 100000
set_option maxHeartbeats 4000000
namespace N
open PySem PySem.Spec PyProof.Rows L2 Evl
section
variable {K : PySem.W.Frag} {σ : L2.St} {H H' : Hp} {ta tb te tl to : TE} {t : TT} {x y z v : V}
/-- a comprehension over the signs of a text -/
theorem el_lcStr {w : List Nat} {g : Nat → Bool} {u : Nat → V} {j : Nat} {vs : List Nat} (h : Ev tl σ H (.str (S w))) (hz : w.length ≤ 40000) (hw : ∀ x, wipe ((wipe σ vs).set j (some x)) vs = wipe σ vs)
    (ht : ∀ (c : Nat) H1, Ex H H1 → c ∈ w → EvT t ((wipe σ vs).set j (some (.str (S [c])))) H1 (g c)) (he : ∀ (c : Nat) H1, Ex H H1 → c ∈ w → g c = true → Ev te ((wipe σ vs).set j (some (.str (S [c])))) H1 (u c)) :
    EvL (tLc (iStr tl) (gName j) t te vs) σ H ((w.filter g).map u) := by
  have e := given_map w (fun c => V.str (S [c])) g u (fun i => (w[i]?.map g).getD false) (fun i => (w[i]?.map u).getD .non) (fun i o ho => by rw [ho]; rfl) (fun i o ho => by rw [ho]; rfl)
  rw [← e]
  intro H0 e0 Q q
  refine h H0 e0 _ fun H1 e1 => ⟨S w, rfl, fun Dl hD => ?_⟩
  have hat : ∀ i, (S w).cps[i]? = w[i]? := fun i => List.getElem?_toArray
  have hsz : (S w).cps.size = w.length := List.size_toArray
  refine ⟨fun i m H' => m = w.length - i ∧ i ≤ w.length ∧ Cw H1 (fun i => (w[i]?.map g).getD false) (fun i => (w[i]?.map u).getD .non) Dl i H', ⟨w.length, rfl, Nat.zero_le _, hD, Ex.new hD, upd_same⟩, ?_⟩
  rintro i m H2 ⟨rfl, hi, p⟩
  by_cases hlt : i < w.length
  · refine .inr ⟨by show i < (S w).cps.size; rw [hsz]; exact hlt, fun H' => Cw H1 (fun i => (w[i]?.map g).getD false) (fun i => (w[i]?.map u).getD .non) Dl (i + 1) H', fun H' p' => ⟨w.length - (i + 1), by omega, rfl, hlt, p'⟩, fun x H' y => ?_⟩
    obtain ⟨rfl, c, hc, rfl⟩ := y
    rw [hat] at hc
    have hm := List.mem_of_getElem? hc
    show _ ∧ _
    refine ⟨hw _, cw_turn p (by omega) ?_ ?_⟩
    · show EvT t _ H1 ((w[i]?.map g).getD false)
      rw [hc]
      exact ht c H1 (e0.trans e1) hm
    · show (w[i]?.map g).getD false = true → Ev te _ H1 ((w[i]?.map u).getD .non)
      rw [hc]
      exact he c H1 (e0.trans e1) hm
  · have ei : i = w.length := by omega
    subst ei
    exact .inl ⟨by show (S w).cps.size ≤ _; rw [hsz]; exact Nat.le_refl _, q Dl H2 (fresh_back e1 p.1) (e1.trans p.2.1) p.2.2⟩
theorem ev_ord {c : Nat} (h : Ev te σ H (.str (S [c]))) : Ev (tCB rOrd (tCons te tNil)) σ H (.int (c : Int)) := fun H1 e1 Q k => h H1 e1 _ fun H2 e2 => ⟨S [c], rfl, rfl, k H2 e2⟩
end
end N
set_option Elab.async false
set_option linter.all false
set_option maxRecDepth 100000
set_option maxHeartbeats 4000000
namespace N
open PySem PySem.Spec PyProof.Rows L2 Evl
open NM (vI FOk)
theorem numL_num {n : Nat} (h : n < 10) : TL.numL n = Vbenaf.num n := by
  rw [TL.numL_lt h]
  have : n = 0 ∨ n = 1 ∨ n = 2 ∨ n = 3 ∨ n = 4 ∨ n = 5 ∨ n = 6 ∨ n = 7 ∨ n = 8 ∨ n = 9 := by omega
  rcases this with rfl | rfl | rfl | rfl | rfl | rfl | rfl | rfl | rfl | rfl <;> decide +kernel
theorem num_len {n : Nat} (h : n < 10) : (Vbenaf.num n).length = 1 := by rw [← numL_num h, TL.numL_lt h]; rfl
theorem bl_bit (s h : Nat) : V.bl (decide (V.int (PySem.Builtin.bitAnd ((s : Int) / 2 ^ ((h : Int)).toNat) 1) = V.int 1)) = .bl (Vbenaf.bit s h) := by
  have e : ((s : Int) / 2 ^ ((h : Int)).toNat) = ((s / 2 ^ h : Nat) : Int) := by
    rw [Int.toNat_natCast]
    push_cast
    rfl
  rw [e, show (1 : Int) = ((1 : Nat) : Int) from rfl, NM.bitAnd_nat, Nat.and_one_is_mod]
  unfold Vbenaf.bit
  congr 1
  rw [Bool.eq_iff_iff, decide_eq_true_eq, V.int.injEq, beq_iff_eq]
  omega
theorem between_len (a : List Nat) : ∀ ys : List (List Nat), (VbenCore.between a ys).length ≤ (ys.map (·.length)).sum + ys.length * a.length
  | [] => Nat.zero_le _
  | [x] => by simp [VbenCore.between]
  | x :: y :: r => by
    have ih := between_len a (y :: r)
    show (x ++ a ++ VbenCore.between a (y :: r)).length ≤ _
    rw [List.length_append, List.length_append]
    simp only [List.map_cons, List.sum_cons, List.length_cons] at ih ⊢
    have e : (r.length + 1 + 1) * a.length = (r.length + 1) * a.length + a.length := by rw [Nat.add_mul (r.length + 1) 1, Nat.one_mul]
    omega
theorem sum_le {n : Nat} : ∀ {l : List Nat}, (∀ x ∈ l, x ≤ n) → l.sum ≤ l.length * n
  | [], _ => Nat.zero_le _
  | x :: l, h => by
    have ih := sum_le (n := n) (l := l) fun y hy => h y (List.mem_cons_of_mem _ hy)
    have hx := h x (List.mem_cons_self ..)
    rw [List.sum_cons, List.length_cons, Nat.add_mul, Nat.one_mul]
    omega
theorem lens_le {n : Nat} {l : List (List Nat)} (h : ∀ x ∈ l, x.length ≤ n) : (l.map (·.length)).sum ≤ l.length * n := by
  have z := sum_le (n := n) (l := l.map (·.length)) fun x hx => by
    obtain ⟨y, hy, rfl⟩ := List.mem_map.mp hx
    exact h y hy
  rw [List.length_map] at z
  exact z
theorem name_len {w : List Nat} (h : VbenCore.isName w = true) : w.length ≤ 12 := by
  unfold VbenCore.isName at h
  rw [Bool.and_eq_true, Bool.and_eq_true, decide_eq_true_eq, decide_eq_true_eq] at h
  exact h.2.1
theorem nameOf_len {f : Fld} (ok : FOk f) (v : Nat) : (Vbenaf.nameOf f v).length ≤ 12 := by
  unfold Vbenaf.nameOf
  rw [List.getD_eq_getElem?_getD]
  cases h : f.values[v]? with
  | none => exact Nat.zero_le _
  | some x => exact name_len (ok.nm x (List.mem_of_getElem? h)).1
theorem nameOf_get {f : Fld} {v : Nat} (h : v < f.values.length) : f.values[v]? = some (Vbenaf.nameOf f v) := by
  unfold Vbenaf.nameOf
  rw [List.getD_eq_getElem?_getD, List.getElem?_eq_getElem h]
  rfl
section
variable {K : PySem.W.Frag} {σ : L2.St} {H H' : Hp} {ta tb te tl to : TE} {t : TT} {x y z v : V}
theorem el_catNV {q : Addr} {xs zs : List V} (ha : EvL ta σ H xs) (hb : Ev tb σ H (.ref q)) (hq : H q = some (.lst zs)) (hz : xs.length + zs.length ≤ 100000) : EvL (tOp rCat ta tb) σ H (xs ++ zs) :=
  fun H1 e1 Q k => ha H1 e1 _ fun p H2 n2 e2 hp => hb H2 (e1.trans e2) _ fun H3 e3 => ⟨p, q, xs, zs, rfl, rfl, e3 _ _ hp, ((e1.trans e2).trans e3) _ _ hq, sz_of hz, fun r nr => k r _ (fresh_back (e2.trans e3) nr) ((e2.trans e3).trans (Ex.new nr)) upd_same⟩
theorem el_catNN {xs zs : List V} (ha : EvL ta σ H xs) (hb : EvL tb σ H zs) (hz : xs.length + zs.length ≤ 100000) : EvL (tOp rCat ta tb) σ H (xs ++ zs) :=
  fun H1 e1 Q k => ha H1 e1 _ fun p H2 n2 e2 hp => hb H2 (e1.trans e2) _ fun q H3 n3 e3 hq => ⟨p, q, xs, zs, rfl, rfl, e3 _ _ hp, hq, sz_of hz, fun r nr => k r _ (fresh_back (e2.trans e3) nr) ((e2.trans e3).trans (Ex.new nr)) upd_same⟩
theorem rv_catS {a b : List Nat} (h : a.length + b.length ≤ 100000) : RV (fun x y H Q => ∃ i j, x = V.str i ∧ y = V.str j ∧ i.length + j.length ≤ sizeLine ∧ Q (V.str (i ++ j)) H) (.str (S a)) (.str (S b)) H (.str (S (a ++ b))) :=
  fun H1 _ Q k => ⟨S a, S b, rfl, rfl, sz_of h, by rw [SX.S_cat]; exact k H1 (Ex.refl _)⟩
/-- sep.join(..) of a list of texts that is there -/
theorem ev_joinV {a : List Nat} {p : Addr} {ys : List (List Nat)} (ho : Ev to σ H (.str (S a))) (he : Ev te σ H (.ref p)) (hp : H p = some (.lst (vstrs ys))) (hz : (ys.map (·.length)).sum + ys.length * a.length ≤ 16777216) : Ev (tM1 (rJoin K) to te) σ H (.str (S (VbenCore.between a ys))) :=
  fun H1 e1 Q k => ho H1 e1 _ fun H2 e2 => ⟨⟨_, rfl⟩, he H2 (e1.trans e2) _ fun H3 e3 => ⟨S a, p, ys.map S, rfl, rfl, .inl (by rw [← vstrs_S]; exact sq_of (((e1.trans e2).trans e3) _ _ hp)), by
    have e : (ys.map S).map (·.length) = ys.map (·.length) := by rw [List.map_map]; rfl
    rw [e, List.length_map]
    exact hz, by
    rw [SX.join_S, joinL_between]
    exact k H3 (e2.trans e3)⟩⟩
theorem Tups.at {H : Hp} : ∀ {as : List Addr} {ls : List (Nat × Nat)} {i : Nat} {a : Addr}, Tups H as ls → as[i]? = some a → ∃ l, ls[i]? = some l ∧ H a = some (.tup [.int (l.1 : Int), .int (l.2 : Int)])
  | [], [], i, a, _, h => by cases i <;> cases h
  | a :: as, l :: ls, 0, x, h, e => ⟨l, rfl, by cases e; exact h.1⟩
  | a :: as, l :: ls, i + 1, x, h, e => Tups.at (i := i) h.2 e
/-- .. over range(n) -/
theorem el_lcR1m {ta : TA} {j : Nat} {vs : List Nat} {n : Nat} {g : Nat → Bool} {u : Nat → V} (h : EvA ta σ H [.int (n : Int)]) (hn : n ≤ 40000) (hw : ∀ x, wipe ((wipe σ vs).set j (some x)) vs = wipe σ vs)
    (ht : ∀ (i : Nat) H1, Ex H H1 → i < n → EvT t ((wipe σ vs).set j (some (.int (i : Int)))) H1 (g i)) (he : ∀ (i : Nat) H1, Ex H H1 → i < n → g i = true → Ev te ((wipe σ vs).set j (some (.int (i : Int)))) H1 (u i)) :
    EvL (tLc (iRng1 ta) (gName j) t te vs) σ H (((List.range n).filter g).map u) := by
  have k := el_lcR1 (t := t) (te := te) (vs := vs) (j := j) g u h ⟨by omega, by omega⟩ hw (fun i H1 e hi => ht i H1 e (by omega)) (fun i H1 e hi hf => he i H1 e (by omega) hf)
  rw [Int.toNat_natCast] at k
  exact k
/-- a name by its number -/
theorem n_ix {p : Addr} {fl : Fld} {i : Nat} (ha : Ev ta σ H (.ref p)) (hx : H p = some (.lst (vstrs fl.values))) (hb : Ev tb σ H (.int (i : Int))) (hi : i < fl.values.length) : Ev (tOp (rIxL K) ta tb) σ H (.str (S (Vbenaf.nameOf fl i))) :=
  ev_op ha hb (rv_ixL (sq_of hx) (atI_nat (by rw [vstrs, List.getElem?_map, nameOf_get hi]; rfl)))
end
end N
set_option Elab.async false
set_option linter.all false
set_option maxRecDepth 100000
set_option maxHeartbeats 4000000
namespace N
open PySem PySem.Spec PyProof.Rows L2 Evl
open NM (vI FOk)
section
variable {P : Program} {w : World} {K : PySem.W.Frag} {mg : Str → Option Value} {base : Heap} {CW CFa CF : Addr}
-- def state_line(field, state):
--     holes = [str(hole) for hole in range(field.holes) if state >> hole & 1 == 1]
--     return ' '.join(['at'] + holes + ['is', field.names[field.table[state]]])
-- slots 0:field 1:state 2:holes 3:hole
abbrev sstate_line : Stmt := top 37
theorem scstate_line : FnScope ["field", "state", "holes", "hole"] ["field", "state"] (defScope sstate_line) := ⟨rfl, rfl, rfl, by decide +kernel, rfl, by decide +kernel, by decide +kernel⟩
def sp_state_line (CF : Addr) : Sp := pV fun vs H v => ∃ (a : Addr) (s v0 : Nat) (f : Fld) (rk : List Int) (bs : List (List Int)), vs = [.ref a, .int (s : Int)] ∧ FldW CF H a f rk bs ∧ FOk f ∧ s < Vbenaf.states f ∧ Vbenaf.valueOf f s = some v0 ∧ v = .str (S (Vbenaf.atText f s v0))
theorem ok_state_line {f : Addr} {fd : FuncData} (F : Fun K "state_line" "state_line" sstate_line f fd) (T : TxtR mg) (T2 : Txt K mg CF) : FnOk P w K mg base CX0 1 f fd ["field", "state"] (sp_state_line CF) := by
  refine F.ok scstate_line (fun vs H Q E h => ?_) (fun cdv A outer s H vs Q E hr h => ?_)
  · obtain ⟨v, ⟨a, s, v0, f, rk, bs, rfl, _⟩, _⟩ := h
    rfl
  · obtain ⟨v, ⟨a, s, v0, fl, rk, bs, rfl, ⟨A', hL⟩, ok, hs, hv, rfl⟩, ret⟩ := h
    refine ⟨_, (pss_cons (ps_setLc (i := 2) (own := [("hole", 3)]) (g := (gName 3)) (by rfl) scstate_line.nd rfl (by rfl) (by rfl) (pi_range1 (by rfl) T.range (pa_cons (pfld K (pv 0)) pa_nil)) (blkOk_by (own := [("hole", 3)]) (N := ["field", "state", "holes", "hole"]) (sc := defScope sstate_line) (by decide +kernel)) (fun _ _ _ _ _ => (pg_name (i := 3) scstate_line.nd rfl (Or.inl rfl))) (fun _ _ _ _ _ => (pts_one (pt_cmpR op_eq (pe_op op_and (pe_op op_shr (pv 1) (pv 3)) pe_int) pe_int (nomark _)))) (fun _ _ _ _ _ => (pstr T.str (pv 3))))
      (pss_one (ps_ret (pjoin K pe_str (pe_op op_cat (pe_op op_cat (pe_lst (pa_cons pe_str pa_nil)) (pv 2)) (pe_lst (pa_cons pe_str (pa_cons (pix K (pfld K (pv 0)) (pix K (pfld K (pv 0)) (pv 1))) pa_nil)))))))), ?_⟩
    have vlt : v0 < fl.values.length := ok.tv v0 (by
      have z := NM.val_get ok hs
      rw [hv] at z
      exact List.mem_of_getElem? z)
    refine q_asgL (xs := vstrs (((List.range fl.holes).filter (Vbenaf.bit s)).map Vbenaf.num)) (by
      have k := el_lcR1m (ta := tCons (tFld K (tVar 0) (Str.ofString "holes")) tNil) (t := (tTest
          (tOp rEq
            (tOp (rI0 fun i j => V.int (Builtin.bitAnd i j))
              (tOp (rI (fun x j => 0 ≤ j) fun i j => V.int (i / 2 ^ j.toNat)) (tVar 1) (tVar 3)) (tC (V.int 1)))
            (tC (V.int 1))))) (te := tCB rStrI (tCons (tVar 3) tNil)) (j := 3) (vs := [3]) (g := Vbenaf.bit s) (u := fun i => .str (S (Vbenaf.num i))) (σ := [some (V.ref a), some (.int (s : Int)), none, none])
        (ea_one (ev_fld (ev_var rfl) hL.o T2.cF T2.nHoles fF_holes)) (by have := ok.h6; omega) (fun x => rfl) (fun i H1 e1 hi => et_test (ev_is (ev_op (ev_op (ev_op (ev_var rfl) (ev_var rfl) (rv_I (C := fun x j => 0 ≤ j) (by omega))) ev_c rv_I0) ev_c (rv_eq rfl)) (bl_bit s i)))
        (fun i H1 e1 hi _ => ev_is (ev_strI (ev_var rfl) (by have := ok.h6; omega)) (by rw [numL_num (by have := ok.h6; omega)]))
      rw [vstrs, List.map_map]
      exact k) fun q H1 nq e1 hq => ?_
    have hL1 := hL.ex e1
    have hpl : ((List.range fl.holes).filter (Vbenaf.bit s)).length ≤ 6 := Nat.le_trans (List.length_filter_le _ _) (by rw [List.length_range]; exact ok.h6)
    refine s_ret (ev_is (ev_joinN (a := [32]) (ys := Vbenaf.W "at" :: ((((List.range fl.holes).filter (Vbenaf.bit s)).map Vbenaf.num) ++ [Vbenaf.W "is", Vbenaf.nameOf fl v0])) (ev_is ev_c (by rw [s_blank])) ?_ ?_) (by rfl)) fun H2 e2 => ret H2 (e1.trans e2)
    · have k := el_catNN (el_catNV (el_lst (ea_one (ev_c (v := V.str (Str.ofString "at")))) (by simp)) (ev_var (σ := [some (V.ref a), some (.int (s : Int)), some (V.ref q), none]) (i := 2) rfl) hq (by simp [vstrs]; omega))
        (el_lst (ea_two (ev_c (v := V.str (Str.ofString "is"))) (n_ix (K := K) (ev_fld (ev_var (i := 0) rfl) hL1.o T2.cF T2.nNames fF_names) hL1.n (ev_is (v_ix (K := K) (ev_fld (ev_var (i := 0) rfl) hL1.o T2.cF T2.nTable fF_table) hL1.t (ev_var (i := 1) rfl) ok hs) (by rw [hv]; rfl)) vlt)) (by simp)) (by simp [vstrs]; omega)
      rw [vstrs, List.map_cons, List.map_append]
      rw [ofS, ofS] at k
      exact k
    · have e : ∀ x ∈ Vbenaf.W "at" :: ((((List.range fl.holes).filter (Vbenaf.bit s)).map Vbenaf.num) ++ [Vbenaf.W "is", Vbenaf.nameOf fl v0]), x.length ≤ 12 := by
        intro x hx
        rcases List.mem_cons.mp hx with rfl | hx
        · decide +kernel
        rcases List.mem_append.mp hx with hx | hx
        · obtain ⟨i, hi, rfl⟩ := List.mem_map.mp hx
          have hi2 := List.mem_range.mp (List.mem_filter.mp hi).1
          rw [num_len (by have := ok.h6; omega)]
          decide
        rcases List.mem_cons.mp hx with rfl | hx
        · decide +kernel
        rw [List.mem_singleton] at hx
        subst hx
        exact nameOf_len ok v0
      have z := lens_le e
      simp only [List.length_cons, List.length_append, List.length_map, List.length_nil] at z ⊢
      omega
end
end N
set_option Elab.async false
set_option linter.all false
set_option maxRecDepth 100000
set_option maxHeartbeats 4000000
namespace N
open PySem PySem.Spec PyProof.Rows L2 Evl
open NM (vI FOk)
section
variable {P : Program} {w : World} {K : PySem.W.Frag} {mg : Str → Option Value} {base : Heap} {CW CFa CF : Addr}
structure TxtO (mg : Str → Option Value) : Prop extends TxtR mg where
  ord : mg "ord" = none
def letText (f : Fld) (x : Nat × Nat) : List Nat := VbenCore.between [32] [Vbenaf.W "let", Vbenaf.nameOf f x.1, Vbenaf.nameOf f x.2]
def linesOf (f : Fld) : List (List Nat) := VbenCore.between [32] [Vbenaf.W "holes", Vbenaf.num f.holes] :: VbenCore.between [32] (Vbenaf.W "values" :: f.values) ::
  (f.lets.map (letText f) ++ (List.range (Vbenaf.states f)).filterMap fun s => (Vbenaf.valueOf f s).map fun v => Vbenaf.atText f s v)
theorem fieldText_lines (f : Fld) : Vbenaf.fieldText f = VbenCore.between [10] (linesOf f) := rfl
-- def one_text(field):
--     lines = ['holes ' + str(field.holes), ' '.join(['values'] + field.names)]
--     for change in field.lets:
--         lines.append(' '.join(['let', field.names[change[0]], field.names[change[1]]]))
--     for state in range(field.state_count()):
--         if field.table[state] != NO_VALUE:
--             lines.append(state_line(field, state))
--     return [ord(sign) for sign in '\n'.join(lines)]
-- slots 0:field 1:lines 2:change 3:state 4:sign
abbrev sone_text : Stmt := top 38
theorem scone_text : FnScope ["field", "lines", "change", "state", "sign"] ["field"] (defScope sone_text) := ⟨rfl, rfl, rfl, by decide +kernel, rfl, by decide +kernel, by decide +kernel⟩
def sp_one_text (CF : Addr) : Sp := pL fun vs H xs => ∃ (a : Addr) (f : Fld) (rk : List Int) (bs : List (List Int)), vs = [.ref a] ∧ FldW CF H a f rk bs ∧ FOk f ∧ xs = vnats (Vbenaf.fieldText f)
theorem ok_one_text {f : Addr} {fd : FuncData} (F : Fun K "one_text" "one_text" sone_text f fd) (T : TxtO mg) (T2 : Txt K mg CF) (m_Field_state_count : Met P w K mg base CX0 1 CF "state_count" (spF_state_count CF)) (c_state_line : Cal P w K mg base CX0 1 "state_line" (sp_state_line CF)) : FnOk P w K mg base CX0 2 f fd ["field"] (sp_one_text CF) := by
  refine F.ok scone_text (fun vs H Q E h => ?_) (fun cdv A outer s H vs Q E hr h => ?_)
  · obtain ⟨v, ⟨a, f, rk, bs, rfl, _⟩, _⟩ := h
    rfl
  · obtain ⟨v, ⟨a, fl, rk, bs, rfl, ⟨A', hL⟩, ok, rfl⟩, ret⟩ := h
    refine ⟨_, (pss_cons (ps_set (i := 1) scone_text.nd rfl (Or.inl rfl) (pe_lst (pa_cons (pe_op op_add_str pe_str (pstr T.str (pfld K (pv 0)))) (pa_cons (pjoin K pe_str (pe_op op_cat (pe_lst (pa_cons pe_str pa_nil)) (pfld K (pv 0)))) pa_nil))))
      (pss_cons (ps_for PassesOwn.never rfl (piList K (pfld K (pv 0))) (pg_name (i := 2) scone_text.nd rfl (Or.inl rfl))
        (pss_one (ps_expr (papp K (pv 1) (pjoin K pe_str (pe_lst (pa_cons pe_str (pa_cons (pix K (pfld K (pv 0)) (pixt K (pv 2) pe_int)) (pa_cons (pix K (pfld K (pv 0)) (pixt K (pv 2) pe_int)) pa_nil)))))))))
      (pss_cons (ps_for PassesOwn.never rfl (pi_range1 (by rfl) T.range (pa_cons (pmt0 m_Field_state_count hr (by decide) (pv 0)) pa_nil)) (pg_name (i := 3) scone_text.nd rfl (Or.inl rfl))
        (pss_one (ps_if (pt_cmpR op_ne (pix K (pfld K (pv 0)) (pv 3)) (pgi T.NO_VALUE) (nomark _))
        (pss_one (ps_expr (papp K (pv 1) (pc c_state_line hr (by decide) (by rfl) (pa_cons (pv 0) (pa_cons (pv 3) pa_nil))))))
        pss_nil)))
      (pss_one (ps_ret (pe_lc (own := [("sign", 4)]) (g := (gName 4)) (by rfl) scone_text.nd (pi_str (pjoin K pe_str (pv 1))) (blkOk_by (own := [("sign", 4)]) (N := ["field", "lines", "change", "state", "sign"]) (sc := defScope sone_text) (by decide +kernel)) (fun _ _ _ _ _ => (pg_name (i := 4) scone_text.nd rfl (Or.inl rfl))) (fun _ _ _ _ _ => pts_nil) (fun _ _ _ _ _ => (pord T.ord (pv 4))))))))), ?_⟩
    have n64 := ok.n64
    have h6 := ok.h6
    have h8 := ok.v8
    have l30 := ok.ll
    have plen := hL.p.len
    -- how long the lines are
    have len1 : ∀ x ∈ Vbenaf.W "values" :: fl.values, x.length ≤ 12 := fun x hx => by
      rcases List.mem_cons.mp hx with rfl | hx
      · decide +kernel
      · exact name_len (ok.nm x hx).1
    have lenL : ∀ y : Nat × Nat, ∀ x ∈ [Vbenaf.W "let", Vbenaf.nameOf fl y.1, Vbenaf.nameOf fl y.2], x.length ≤ 12 := fun y x hx => by
      rcases List.mem_cons.mp hx with rfl | hx
      · decide +kernel
      rcases List.mem_cons.mp hx with rfl | hx
      · exact nameOf_len ok _
      rw [List.mem_singleton] at hx
      subst hx
      exact nameOf_len ok _
    have lenJ : ∀ {n : Nat} (l : List (List Nat)), (∀ x ∈ l, x.length ≤ 12) → l.length ≤ n → (VbenCore.between [32] l).length ≤ n * 13 := fun {n} l h hn => by
      have z1 := between_len [32] l
      have z2 := lens_le h
      have z3 : ([32] : List Nat).length = 1 := rfl
      rw [z3] at z1
      have : l.length * 12 ≤ n * 12 := Nat.mul_le_mul_right _ hn
      omega
    have lenA : ∀ s v, (Vbenaf.atText fl s v).length ≤ 117 := fun s v => by
      refine lenJ (n := 9) _ (fun x hx => ?_) ?_
      · rcases List.mem_cons.mp hx with rfl | hx
        · decide +kernel
        rcases List.mem_append.mp hx with hx | hx
        · obtain ⟨i, hi, rfl⟩ := List.mem_map.mp hx
          have hi2 := List.mem_range.mp (List.mem_filter.mp hi).1
          rw [num_len (by omega)]
          decide
        rcases List.mem_cons.mp hx with rfl | hx
        · decide +kernel
        rw [List.mem_singleton] at hx
        subst hx
        exact nameOf_len ok v
      · have : ((List.range fl.holes).filter (Vbenaf.bit s)).length ≤ 6 := Nat.le_trans (List.length_filter_le _ _) (by rw [List.length_range]; exact h6)
        simp only [List.length_cons, List.length_append, List.length_map, List.length_nil]
        omega
    have lenAll : ∀ x ∈ linesOf fl, x.length ≤ 117 := fun x hx => by
      unfold linesOf at hx
      rcases List.mem_cons.mp hx with rfl | hx
      · refine Nat.le_trans (lenJ (n := 2) _ (fun x hx => ?_) (Nat.le_refl _)) (by decide)
        rcases List.mem_cons.mp hx with rfl | hx
        · decide +kernel
        rw [List.mem_singleton] at hx
        subst hx
        rw [num_len (by omega)]
        decide
      rcases List.mem_cons.mp hx with rfl | hx
      · exact lenJ (n := 9) _ len1 (by rw [List.length_cons]; omega)
      rcases List.mem_append.mp hx with hx | hx
      · obtain ⟨y, _, rfl⟩ := List.mem_map.mp hx
        exact Nat.le_trans (lenJ (n := 3) _ (lenL y) (Nat.le_refl _)) (by decide)
      · obtain ⟨s, _, hs⟩ := List.mem_filterMap.mp hx
        cases hv : Vbenaf.valueOf fl s with
        | none => rw [hv] at hs; cases hs
        | some v =>
          rw [hv] at hs
          rw [← Option.some.inj hs]
          exact lenA s v
    have lenN : (linesOf fl).length ≤ 100 := by
      unfold linesOf
      have : ((List.range (Vbenaf.states fl)).filterMap fun s => (Vbenaf.valueOf fl s).map fun v => Vbenaf.atText fl s v).length ≤ Vbenaf.states fl := Nat.le_trans (List.length_filterMap_le _ _) (by rw [List.length_range]; exact Nat.le_refl _)
      simp only [List.length_cons, List.length_append, List.length_map]
      omega
    -- the first two lines
    have e1 : Str.ofString "holes " = S (Vbenaf.W "holes" ++ [32]) := by decide +kernel
    have h6l : (Vbenaf.W "holes" ++ [32]).length = 6 := by decide +kernel
    have e2 : VbenCore.between [32] [Vbenaf.W "holes", Vbenaf.num fl.holes] = (Vbenaf.W "holes" ++ [32]) ++ Vbenaf.num fl.holes := rfl
    refine q_asgL (xs := vstrs [VbenCore.between [32] [Vbenaf.W "holes", Vbenaf.num fl.holes], VbenCore.between [32] (Vbenaf.W "values" :: fl.values)]) (el_lst (ea_two (ev_is (ev_op (ev_is ev_c (by rw [e1])) (ev_is (ev_strI (ev_fld (ev_var rfl) hL.o T2.cF T2.nHoles fF_holes) (by omega)) (by rw [numL_num (by omega)])) (rv_catS (a := Vbenaf.W "holes" ++ [32]) (b := Vbenaf.num fl.holes) (by rw [num_len (by omega), h6l]; decide))) (by rw [e2]))
      (ev_joinN (a := [32]) (ys := Vbenaf.W "values" :: fl.values) (ev_is ev_c (by rw [s_blank])) (el_catNV (xs := [V.str (S (Vbenaf.W "values"))]) (zs := vstrs fl.values) (el_lst (ea_one (ev_is ev_c (by rw [ofS]; rfl))) (Nat.le_of_ble_eq_true rfl)) (ev_fld (ev_var rfl) hL.o T2.cF T2.nNames fF_names) hL.n (by simp [vstrs]; omega)) (by
        have z := lens_le len1
        rw [List.length_cons] at z ⊢
        rw [show ([32] : List Nat).length = 1 from rfl]
        omega))) (Nat.le_of_ble_eq_true rfl)) fun b H1 nb e1' hb => ?_
    generalize hl0 : [VbenCore.between [32] [Vbenaf.W "holes", Vbenaf.num fl.holes], VbenCore.between [32] (Vbenaf.W "values" :: fl.values)] = l0 at hb
    have l0n : l0.length = 2 := by rw [← hl0]; rfl
    have vlen : ∀ l : List (List Nat), (vstrs l).length = l.length := fun l => by simp [vstrs]
    have vsnoc : ∀ (l : List (List Nat)) (x : List Nat), vstrs l ++ [V.str (S x)] = vstrs (l ++ [x]) := fun l x => by simp [vstrs]
    -- the lets
    have hL1 := hL.ex e1'
    show tSeq (tFor _ _ _) _ _ [some (.ref a), some (.ref b), none, none, none] _
    refine q_forLn (ev_fld (ev_var rfl) hL1.o T2.cF T2.nLets fF_lets) (sq_of hL1.l) (fun i σ' H' => ∃ v2 : Option V, σ' = [some (.ref a), some (.ref b), v2, none, none] ∧ Ex H H' ∧ H' b = some (.lst (vstrs (l0 ++ (fl.lets.take i).map (letText fl)))))
      (fun H2 e2 => ⟨none, rfl, e1'.trans e2, by rw [List.take_zero, List.map_nil, List.append_nil]; exact e2 _ _ hb⟩)
      (fun i σ' H' _ hP => by obtain ⟨v2, rfl, eH, hb'⟩ := hP; exact sq_of (hL.ex eH).l) ?_ ?_
    · rintro i x σ' H' hi ⟨v2, rfl, eH, hb'⟩
      have hL' := hL.ex eH
      rw [vrefs, List.getElem?_map] at hi
      cases hq : A'.ps[i]? with
      | none => rw [hq] at hi; cases hi
      | some q =>
        rw [hq] at hi
        obtain rfl : V.ref q = x := Option.some.inj hi
        obtain ⟨y, hy, hqt⟩ := hL'.p.at hq
        have hlv := ok.lv y (List.mem_of_getElem? hy)
        have hil := (List.getElem?_eq_some_iff.mp hy).1
        have tk : fl.lets.take (i + 1) = fl.lets.take i ++ [y] := by
          rw [List.take_add_one, hy]
          rfl
        refine s_app (v := .str (S (letText fl y))) hb' (ev_var rfl) (ev_joinN (a := [32]) (ys := [Vbenaf.W "let", Vbenaf.nameOf fl y.1, Vbenaf.nameOf fl y.2]) (ev_is ev_c (by rw [s_blank])) (el_lst (ea_cons (ev_is ev_c (by rw [ofS]; rfl)) (ea_two (n_ix (ev_fld (ev_var rfl) hL'.o T2.cF T2.nNames fF_names) hL'.n (ev_op (ev_var rfl) ev_c (rv_ixT (st_of hqt) rfl)) hlv.1) (n_ix (ev_fld (ev_var rfl) hL'.o T2.cF T2.nNames fF_names) hL'.n (ev_op (ev_var rfl) ev_c (rv_ixT (st_of hqt) rfl)) hlv.2.1))) (Nat.le_of_ble_eq_true rfl)) (by
          have z := lens_le (lenL y)
          rw [show ([32] : List Nat).length = 1 from rfl]
          simp only [List.length_cons, List.length_nil] at z ⊢
          omega)) (by rw [vlen, List.length_append, List.length_map, List.length_take]; omega) fun H2 e2 => ?_
        refine ⟨some (.ref q), rfl, Ex.mut (eH.trans e2) nb, ?_⟩
        rw [upd_same, vsnoc, tk, List.map_append, List.append_assoc]
        rfl
    · rintro σ' H' ⟨v2, rfl, eH, hb'⟩
      rw [vrefs_len, plen, List.take_length] at hb'
      have hL' := hL.ex eH
      generalize hl1 : l0 ++ fl.lets.map (letText fl) = l1 at hb'
      have l1n : l1.length ≤ 32 := by rw [← hl1, List.length_append, List.length_map]; omega
      refine q_forR1 (n := (Vbenaf.states fl : Int)) (ea_one (ev_mth (ev_var rfl) hL'.o (fF_no (by decide +kernel)) ea_nil (pV.sp fun H2 e2 => ⟨a, fl, rk, bs, rfl, ⟨A', hL'.ex e2⟩, ok, rfl⟩))) (by omega) (fun i σ' H' => ∃ v3 : Option V, σ' = [some (.ref a), some (.ref b), v2, v3, none] ∧ Ex H H' ∧ i ≤ Vbenaf.states fl ∧ H' b = some (.lst (vstrs (l1 ++ (List.range i).filterMap fun s => (Vbenaf.valueOf fl s).map fun v => Vbenaf.atText fl s v))))
        (fun H2 e2 => ⟨none, rfl, eH.trans e2, Nat.zero_le _, by rw [List.range_zero, List.filterMap_nil, List.append_nil]; exact e2 _ _ hb'⟩) ?_ ?_
      · rintro i σ' H2 hi ⟨v3, rfl, eH2, hi2, hb2⟩
        have hs : i < Vbenaf.states fl := by omega
        have hL2 := hL.ex eH2
        have lf : ((List.range i).filterMap fun s => (Vbenaf.valueOf fl s).map fun v => Vbenaf.atText fl s v).length ≤ i := Nat.le_trans (List.length_filterMap_le _ _) (by rw [List.length_range]; exact Nat.le_refl _)
        have hr1 : (List.range (i + 1)).filterMap (fun s => (Vbenaf.valueOf fl s).map fun v => Vbenaf.atText fl s v) = (List.range i).filterMap (fun s => (Vbenaf.valueOf fl s).map fun v => Vbenaf.atText fl s v) ++ ((Vbenaf.valueOf fl i).map fun v => Vbenaf.atText fl i v).toList := by
          rw [List.range_succ, List.filterMap_append]
          cases h : (Vbenaf.valueOf fl i) <;> simp [h]
        refine s_when (b := !decide (Vbenaf.valueOf fl i = none)) (et_test (ev_is (ev_op (v_ix (ev_fld (ev_var rfl) hL2.o T2.cF T2.nTable fF_table) hL2.t (ev_var rfl) ok hs) ev_c (rv_ne rfl)) (by
          congr 2
          rw [Bool.eq_iff_iff, decide_eq_true_eq, decide_eq_true_eq, V.int.injEq, NM.vI_isNone]))) (fun hc H3 e3 => ?_) (fun hc H3 e3 => ?_)
        · cases hv : Vbenaf.valueOf fl i with
          | none => rw [hv] at hc; cases hc
          | some v0 =>
            refine s_app (v := .str (S (Vbenaf.atText fl i v0))) (e3 _ _ hb2) (ev_var rfl) (ev_call (ea_two (ev_var rfl) (ev_var rfl)) (pV.sp fun H4 e4 => ⟨a, i, v0, fl, rk, bs, rfl, ⟨A', (hL2.ex e3).ex e4⟩, ok, hs, hv, rfl⟩)) (by rw [vlen, List.length_append]; omega) fun H4 e4 => ?_
            refine ⟨_, rfl, Ex.mut ((eH2.trans e3).trans e4) nb, by omega, ?_⟩
            rw [upd_same, vsnoc, hr1, hv, List.append_assoc]
            rfl
        · cases hv : Vbenaf.valueOf fl i with
          | some v0 => rw [hv] at hc; cases hc
          | none =>
            refine ⟨_, rfl, eH2.trans e3, by omega, ?_⟩
            rw [hr1, hv]
            rw [show (Option.map (fun v => Vbenaf.atText fl i v) none).toList = [] from rfl, List.append_nil]
            exact e3 _ _ hb2
      · rintro σ' H2 ⟨v3, rfl, eH2, hi2, hb2⟩
        rw [Int.toNat_natCast] at hb2
        have hall : l1 ++ ((List.range (Vbenaf.states fl)).filterMap fun s => (Vbenaf.valueOf fl s).map fun v => Vbenaf.atText fl s v) = linesOf fl := by
          rw [← hl1, ← hl0]
          rfl
        rw [hall] at hb2
        have z1 := lens_le lenAll
        have z2 : (linesOf fl).length * 117 ≤ 100 * 117 := Nat.mul_le_mul_right _ lenN
        have z3 := between_len [10] (linesOf fl)
        rw [show ([10] : List Nat).length = 1 from rfl] at z3
        have k := el_lcStr (tl := tM1 (rJoin K) (tC (V.str (Str.ofString "\n"))) (tVar 1)) (t := tYes) (te := tCB rOrd (tCons (tVar 4) tNil)) (σ := [some (.ref a), some (.ref b), v2, v3, none]) (H := H2) (w := Vbenaf.fieldText fl) (g := fun _ => true) (u := fun c => .int (c : Int)) (j := 4) (vs := [4])
          (ev_joinV (a := [10]) (ys := linesOf fl) (ev_is ev_c (by rw [s_lineEnd])) (ev_var rfl) hb2 (by rw [show ([10] : List Nat).length = 1 from rfl]; omega)) (by rw [fieldText_lines]; omega) (fun x => rfl) (fun c H3 _ _ => fun H4 _ Q q => q H4 (Ex.refl _)) (fun c H3 _ _ _ => ev_ord (ev_var rfl))
        rw [List.filter_eq_self.mpr (fun _ _ => rfl)] at k
        exact s_retL k fun p H3 np e3 hp => ret p H3 (fresh_back eH2 np) (eH2.trans e3) hp
-- def first_field():
--     return Field(1, [], [], [NO_VALUE, NO_VALUE])
-- slots 
abbrev sfirst_field : Stmt := top 16
theorem scfirst_field : FnScope [] [] (defScope sfirst_field) := ⟨rfl, rfl, rfl, by decide +kernel, rfl, by decide +kernel, by decide +kernel⟩
abbrev f0 : Fld := Vbenaf.noField
theorem f0_ok : FOk f0 := ⟨⟨by decide, by decide, rfl, by decide, fun w hw => (by simp [Vbenaf.noField] at hw), fun p hp => (by cases hp), by decide⟩, fun x hx => (by cases hx), List.nodup_nil⟩
theorem go_field2 {K : PySem.W.Frag} {CF : Addr} {ta : TA} {σ : L2.St} {H : Hp} {Q : VK} {f : Fld}
    (ha : ∀ Q2 : List V → Hp → Prop, (∀ n0 l0 t0 H1, Ex H H1 → H1 n0 = some (.lst (vstrs f.values)) → LetsAt H1 l0 f.lets → TabAt H1 t0 f.table → Q2 [.int (f.holes : Int), .ref n0, .ref l0, .ref t0] H1) → ta σ H Q2) (ok : NM.FBk f)
    (h : ∀ q H', H q = none → Ex H H' → FldW CF (lessL H H') q f (NM.rkAll f) (NM.bsAll f) → Q (.ref q) H') : tMake CF (spF_init K CF) [] E0 ta σ H Q :=
  ha _ fun n0 l0 t0 H1 e1 hn hl ht a dx na nd nda => by
    obtain ⟨ps, hl1, hl2⟩ := hl
    have em := ex_made (u := .own a) (o := .ins CF dx []) na nd
    exact ⟨a, dx, n0, l0, t0, ps, f, rfl, upd_same, em _ _ hn, em _ _ hl1, hl2.ex em, em _ _ ht, ok, fun H' A e hL _ => ⟨rfl, h a H' (fresh_back e1 na) (e1.trans (ex_make na nd e)) ⟨A, hL.ex (lessL_old (e1.trans (ex_made na nd)))⟩⟩⟩
def sp_first_field (CF : Addr) : Sp := fun vs H Q _ => vs = [] ∧ ∀ q H', H q = none → Ex H H' → FldW CF (lessL H H') q f0 (NM.rkAll f0) (NM.bsAll f0) → Q (.ref q) H'
theorem ok_first_field {f : Addr} {fd : FuncData} (F : Fun K "first_field" "first_field" sfirst_field f fd) (T : TxtR mg) (k_Field : Mak P w K mg base CX0 5 "Field" CF (spF_init K CF)) : FnOk P w K mg base CX0 7 f fd [] (sp_first_field CF) := by
  refine F.ok scfirst_field (fun vs H Q E h => ?_) (fun cdv A outer s H vs Q E hr h => ?_)
  · obtain ⟨rfl, _⟩ := h
    rfl
  · obtain ⟨rfl, ret⟩ := h
    refine ⟨_, (pss_one (ps_ret (pmk k_Field hr (by decide) (by rfl) (pa_cons pe_int (pa_cons (pe_lst pa_nil) (pa_cons (pe_lst pa_nil) (pa_cons (pe_lst (pa_cons (pgi T.NO_VALUE) (pa_cons (pgi T.NO_VALUE) pa_nil))) pa_nil))))))), ?_⟩
    refine go_field2 (Q := Q) (f := f0) (fun Q2 k => ?_) f0_ok fun q H1 nq e1 hF => ret q H1 nq e1 hF
    exact (ev_c : Ev (tC (V.int 1)) (L2.start [] []) H _) H (Ex.refl _) _ fun H1 e1 => el_lst ea_nil (by decide) H1 (Ex.refl _) _ fun p1 H2 n1 e2 h1 => el_lst ea_nil (by decide) H2 (Ex.refl _) _ fun p2 H3 n2 e3 h2 =>
      el_lst (ea_two ev_c ev_c) (Nat.le_of_ble_eq_true rfl) H3 (Ex.refl _) _ fun p3 H4 n3 e4 h3 => k p1 p2 p3 H4 (e1.trans (e2.trans (e3.trans e4))) (e4 _ _ (e3 _ _ h1)) ⟨[], e4 _ _ h2, trivial⟩ h3
end
end N
set_option Elab.async false
set_option linter.all false
set_option maxRecDepth 100000
set_option maxHeartbeats 4000000
namespace N
open PySem PySem.Spec PyProof.Rows L2 Evl
/-! ### out of a comprehension's block -/
theorem ok_xe {X : Cx} {e : Value → Shared → Prop} (k : ({ X with xe := e } : Cx).Ok) : X.Ok := by
  cases k
  constructor <;> assumption
theorem inv_xe {X : Cx} {e : Value → Shared → Prop} {pins : List (Addr × Obj)} {σ : L2.St} {H : Hp} {s : Shared} (I : Inv { X with xe := e } pins σ H s) : Inv X pins σ H s :=
  ⟨ok_xe I.ok, I.os, I.bare, I.base, I.loc, I.cell, I.free, I.freeC, I.pin, I.hok, I.len⟩
theorem ok_ex {X : Cx} {e : Value → Shared → Prop} (k : X.Ok) : ({ X with xe := e } : Cx).Ok := by
  cases k
  constructor <;> assumption
theorem inv_ex {X : Cx} {e : Value → Shared → Prop} {pins : List (Addr × Obj)} {σ : L2.St} {H : Hp} {s : Shared} (I : Inv X pins σ H s) : Inv { X with xe := e } pins σ H s :=
  ⟨ok_ex I.ok, I.os, I.bare, I.base, I.loc, I.cell, I.free, I.freeC, I.pin, I.hok, I.len⟩
/-- what a call in the block lets out, with the state at the call -/
def Out (XB : Cx) (E : XK) (u : Value) (s' : Shared) : Prop := ∃ pins σ H s, Inv XB pins σ H s ∧ L2.CX XB.prog XB.w XB.stack H s E u s'
theorem Out.at (XB : Cx) (E : XK) (σ : L2.St) : PassesAt (L2.CX XB.prog XB.w) { XB with xe := Out XB E } σ E := fun pins H s e s' I c => ⟨pins, σ, H, s, inv_xe I, c⟩
theorem frames_but {C : Addr} {h h' B B' : Heap} {o : Obj} (sb : Heap.SameBut C h h') (hC : h.get? C = some o) (hB : B.get? C = some o) (lt : ∀ b, B.get? b = none → B'.get? b = none) : ∀ {l : List Env}, h.FunFrames B l → h'.FunFrames B' l
  | [], _ => trivial
  | env :: l, ⟨k, ⟨L, oL, f1, f2, f3, f4⟩, r⟩ => ⟨k, ⟨L, oL, f1, lt _ f2, (sb.2 L fun z => by rw [z, hB] at f2; cases f2).trans f3, f4⟩, frames_but sb hC hB lt r⟩
theorem mem_frs {env : Env} {l : List Env} {L b : Addr} (hf : env.frame = some L) : b ∈ frs (env :: l) → b = L ∨ b ∈ frs l := by
  intro h
  have e : frs (env :: l) = L :: frs l := by
    show List.filterMap (·.frame) (env :: l) = L :: List.filterMap (·.frame) l
    rw [List.filterMap_cons, hf]
  rw [e] at h
  exact List.mem_cons.mp h
theorem comp_out {X : Cx} {pins : List (Addr × Obj)} {σ : L2.St} {H : Hp} {s s' : Shared} {W : WX} {E : XK} {u : Value} {ce : Env} {m : Str → Option Value} (hs : X.stack = X.env :: X.outer) (hf : X.env.frame = some X.env.locals) (tk : Takes X W)
    (I : Inv X pins σ H s) (hC : FpOk X pins H ce.locals) (nC : s.heap.Ns ce.locals m) (hcf : ce.frame = X.env.frame) (hW : ∀ cls d H', E cls d H' → W cls d σ H') (c : L2.CX X.prog X.w X.stack H s E u s') :
    notedBy (model X.prog X.w) X.A ce (CompFails (model X.prog X.w) X.A X.xe ce) u s' := by
  obtain ⟨a, B, H', cls, d, rfl, fl, hok, ub, na, os, ag, hE⟩ := c
  have fr : X.A.frames = some (X.env :: X.outer) := by rw [I.ok.frames, hs]
  obtain ⟨oC, es, ep, gC, dC, rC⟩ := nC
  have out : ce.locals ∉ frs X.stack := fun h => by
    rw [hs] at h
    rcases mem_frs hf h with z | z
    · exact hC.2.1 z
    · exact hC.2.2.1 z
  have hBC : B.get? ce.locals = some oC := ub.keep _ _ gC hC.1 out
  have h1C : s'.heap.get? ce.locals = some oC := fl.1 _ _ hBC
  rw [hs] at fl
  show wpAny _ _ (noteFrame (.ref a) ce) _ _ s'
  rw [noteFrame_env _ hcf]
  refine HandSPX.looks_onZ Zc.steady fr hf fl fun h1 held up1 => ?_
  refine ⟨m, up1.ns ⟨oC, es, ep, h1C, dC, rC⟩, fun h2 m2 n2 sb => ?_⟩
  obtain ⟨b1, b0, f1, oe, vs, T, oT, ts, he, hz, hd, hv1, hnT, hTe, hT, hdT, h3⟩ := held
  obtain ⟨B2, r1, r2⟩ := restrict B fun b => decide (b ≠ ce.locals)
  have keepB : ∀ b o, B2.get? b = some o → B.get? b = some o ∧ b ≠ ce.locals := fun b o h => by
    by_cases z : b = ce.locals
    · rw [r2 b (by rw [decide_eq_false_iff_not]; exact fun y => y z)] at h
      cases h
    · exact ⟨by rw [← r1 b (decide_eq_true z)]; exact h, z⟩
  have lessB : ∀ b, B.get? b = none → B2.get? b = none := fun b h => by
    cases q : B2.get? b with
    | none => rfl
    | some o => rw [(keepB b o q).1] at h; cases h
  have hC1 : h1.get? ce.locals = some oC := b1 _ _ hBC
  have nea : a ≠ ce.locals := fun z => by rw [z, hBC] at b0; cases b0
  have neT : T ≠ ce.locals := fun z => by rw [z, hBC] at hnT; cases hnT
  have st2 : B2.StaysIn h2 := fun b o h => (sb.2 b (keepB b o h).2).trans (b1 b o (keepB b o h).1)
  have ff2 : h2.FunFrames B2 (X.env :: X.outer) := frames_but sb hC1 hBC lessB f1
  have tr2 : HandSPX.TracedZ h2 B2 a (Zc cls d) (rawInt X.env.locals) := ⟨oe, vs, T, oT, ts, (sb.2 a nea).trans he, hz, hd, hv1, lessB _ hnT, hTe, (sb.2 T neT).trans hT, hdT, h3⟩
  unfold PySem.passOn
  refine wpAny_bind (wpAny_field ((sb.2 a nea).trans he) hd hv1 ?_)
  rw [if_neg (by simp), hcf, hf]
  refine wpAny_bind (HandSPX.setFlight_anyZ st2 ff2 tr2 fun h4 k1 k2 k3 k4 => wpAny_throw (tk _ _ ?_))
  -- the state without the exception and without the block
  obtain ⟨G, g1, g2⟩ := restrict h4 fun b => (B2.get? b).isSome || decide (b ∈ frs X.stack)
  have inG : ∀ b o, B2.get? b = some o → G.get? b = some o := fun b o h => (g1 b (by rw [h]; rfl)).trans (k1 b o h)
  have fsG : ∀ b, b ∈ frs X.stack → G.get? b = h4.get? b := fun b h => g1 b (by rw [decide_eq_true h, Bool.or_true])
  have ofG : ∀ b o, G.get? b = some o → h4.get? b = some o ∧ (b ∈ frs X.stack ∨ B2.get? b = some o) := fun b o h => by
    cases q : (B2.get? b).isSome || decide (b ∈ frs X.stack) with
    | false => rw [g2 b q] at h; cases h
    | true =>
      have h5 := (g1 b q).symm.trans h
      refine ⟨h5, ?_⟩
      rcases (Bool.or_eq_true _ _).mp q with q | q
      · obtain ⟨o2, q2⟩ := Option.isSome_iff_exists.mp q
        rw [k1 b o2 q2] at h5
        rw [q2, h5]
        exact .inr rfl
      · exact .inl (of_decide_eq_true q)
  have up12 : ∀ b o, h1.get? b = some o → b ≠ ce.locals → (∀ vs, o.data ≠ .fields vs) → ∃ sl, h4.get? b = some { o with slots := sl } := fun b o h n nf => k4 b o ((sb.2 b n).trans h) nf
  have inB2 : ∀ b o, B.get? b = some o → b ≠ ce.locals → B2.get? b = some o := fun b o h n => (r1 b (decide_eq_true n)).trans h
  have frame : ∀ b o, s.heap.get? b = some o → b ∈ frs X.stack → ∃ sl, h4.get? b = some { o with slots := sl } := fun b o h hb => by
    obtain ⟨sl, q⟩ := ub.slot b o h hb
    have nd : ∀ vs, ({ o with slots := sl } : Obj).data ≠ .fields vs := by
      have z := f1.mem (b := b) (by rw [hs] at hb; exact hb)
      obtain ⟨_, o2, q2, q3⟩ := fl.2.2.1.mem (b := b) (by rw [hs] at hb; exact hb)
      rw [q] at q2
      cases q2
      exact q3
    obtain ⟨sl1, q1⟩ := up1 b _ q nd
    obtain ⟨sl2, q2⟩ := up12 b _ q1 (fun z => out (by rw [← z]; exact hb)) nd
    exact ⟨sl2, q2⟩
  have J : Inv X pins σ H' { s with heap := G, gens := s'.gens, drawn := s'.drawn, toks := s'.toks } := by
    refine I.call (ch := [ce.locals]) ⟨fun b o h n hb hc => inG b o (inB2 b o (ub.keep b o h n hb) (fun z => hc (by rw [z]; exact List.mem_cons_self ..))), fun b o h n hb hc => ?_, fun b o h n _ => ub.free b o h n, fun b o h hc => ?_, ub.tups, ub.frzs, ub.tbls⟩ (fun b o h => ?_) ag (fun b hb => ?_)
    · obtain ⟨sl, q⟩ := frame b o h hb
      exact ⟨sl, (fsG b hb).trans q⟩
    · by_cases hb : b ∈ frs X.stack
      · obtain ⟨sl, q⟩ := frame b o h hb
        exact ⟨_, (fsG b hb).trans q⟩
      · obtain ⟨o2, q⟩ := ub.there b o h hb
        exact ⟨o2, inG b o2 (inB2 b o2 q (fun z => hc (by rw [z]; exact List.mem_cons_self ..)))⟩
    · refine (hok b o h).stay (fun x v hx q => inG x v (inB2 x v q fun z => ?_)) (fun _ q => q) fun _ _ q => q
      have free := ub.free _ _ gC hC.1
      rcases hx with z2 | z2
      · rw [← z2, z, free] at h
        cases h
      · rw [z, free] at z2
        cases z2
    · rw [List.mem_singleton] at hb
      subst hb
      exact ⟨hC.2.2.2.1, hC.2.1, hC.2.2.2.2.1, hC.2.2.2.2.2⟩
  refine ⟨a, B2, _, pins, σ, H', cls, d, rfl, J, fun b o h hb => ((ofG b o h).2.resolve_left hb), Heap.UpToSlots.of_keeps fun b o h => (ofG b o h).1, .inr (.inr ?_), na, os, ag, hW _ _ _ hE⟩
  rw [hs]
  exact ⟨k1, lessB _ b0, k2, k3⟩
end N
set_option Elab.async false
set_option linter.all false
set_option maxRecDepth 100000
set_option maxHeartbeats 4000000
namespace N
open PySem PySem.Spec PyProof.Rows L2 Evl
/-- [elt for target in iter], elt may raise: W is wished for with the slots as they stood -/
def tLcX (W : WX) (wi : TI) (g : TG) (te : XK → TE) (vs : List Nat) : TE := fun σ H Q => wi σ H fun J H1 => ∀ D, H1 D = none → ∃ Wd : Nat → Nat → Hp → Prop, (∃ m, Wd 0 m (upd H1 D (.lst []))) ∧ ∀ i m H2, Wd i m H2 →
  (J.stop i H2 ∧ Q (.ref D) H2) ∨ (J.go i H2 ∧ ∃ Nx : Hp → Prop, (∀ H', Nx H' → ∃ m', m' < m ∧ Wd (i + 1) m' H') ∧ ∀ x H3, J.yld i H2 x H3 →
    g x (wipe σ vs) H3 fun σ2 H4 => wipe σ2 vs = wipe σ vs ∧ te (fun cls d H' => W cls d σ H') σ2 H4 fun y H5 => ∃ acc, H5 D = some (.lst acc) ∧ acc.length < sizeLine ∧ Nx (upd H5 D (.lst (acc ++ [y]))))
theorem pe_lcX {X : Cx} {W : WX} {elt tg iter : Expr} {scope : Scope} {own : List (Str × Nat)} {pos : Pos} {wi : TI} {g : TG} {te : XK → TE} (hc : X.calm = true) (hN : X.N.Nodup) (hst : X.stack = X.env :: X.outer) (hfr : X.env.frame = some X.env.locals) (tk : Takes X W)
    (hi : PI X tg iter wi) (ok : BlkOk X.N X.env.scope scope own)
    (hg : ∀ (s : Shared) (H : Hp) (C : Addr) (cl : List (Str × Addr)) (fp : List Addr), PG (X.blk s H scope (compEnvC scope cl C X.env) fp) tg g)
    (he : ∀ (s : Shared) (H : Hp) (C : Addr) (cl : List (Str × Addr)) (fp : List Addr) (E : XK), PE { X.blk s H scope (compEnvC scope cl C X.env) fp with xe := Out (X.blk s H scope (compEnvC scope cl C X.env) fp) E } elt (te E))
    (hs : ∀ x, foldedSetIterable iter X.env x = pure x := by intro _; rfl) :
    PE X (.ListComp elt [⟨tg, iter, [], 0⟩] scope pos) (tLcX W wi g te (own.map (·.2))) := by
  refine ⟨fun pins s σ H Q I h => ?_⟩
  rw [eval_ListComp]
  have cells : ∀ y ∈ scope.names, y.2 = .free → ∃ c, X.env.cells.lookup y.1 = some c := fun y hy e =>
    (ok.free y hy e).elim (fun k => I.ok.has _ (.inl k)) fun k => I.ok.has _ (.inr k)
  refine comprehension_at (use := none) rfl hs (closure_ok cells) ok.kind (fun y hy e => by rw [ok.uniq y hy, e]) (thn (hi.run pins s σ H _ I h) fun xv sa ha => thn ha fun itv sb hb => ?_)
  obtain ⟨it, fp, tn, J, Hb, rfl, Ib, T, stb, fpb, q⟩ := hb
  refine wpAny_newObj_type (newEnv_comp ?_) (by show 0 ≤ sizeLine; decide)
  -- the new list
  have hDn : Hb sb.heap.objs.size = none := Ib.hok.fresh (Nat.le_refl _)
  obtain ⟨Wd, ⟨m0, w0⟩, turn⟩ := q sb.heap.objs.size hDn
  generalize hD : sb.heap.objs.size = D at w0 turn hDn ⊢
  generalize hsc : ({ sb with heap := sb.heap.push { cls := .type "list", data := .seq ([] : List Value).toArray } } : Shared) = sc
  have hsc' : sc.heap = sb.heap.push { cls := .type "list", data := .seq ([] : List Value).toArray } := by rw [← hsc]
  have kc : ∀ b o, sb.heap.get? b = some o → sc.heap.get? b = some o := fun b o e => by
    rw [hsc']
    exact Heap.get?_push_of_some _ e
  have Ic : Inv X pins σ (upd Hb D (.lst [])) sc := by
    rw [← hsc, ← hD]
    exact Ib.laid (t' := sb.toks) (fun b o e => Heap.get?_push_of_some _ e) (Nat.le_refl _) ⟨Nat.zero_le _, [], 0, .nil, Heap.get?_push_size _ rfl⟩
  have fpc : ∀ b ∈ fp, FpOk X pins (upd Hb D (.lst [])) b ∧ b < sc.heap.objs.size := fun b hb => by
    obtain ⟨o, e, _⟩ := T.obj _ _ stb b hb
    have lt := Heap.lt_size e
    have f := fpb b hb
    refine ⟨⟨?_, f.2⟩, by rw [hsc', Heap.size_push]; exact Nat.lt_succ_of_lt lt⟩
    rw [upd_ne (by rw [← hD]; exact Nat.ne_of_lt lt)]
    exact f.1
  have stc : tn 0 sc.heap := T.keep _ _ _ stb fun b _ o e => kc b o e
  generalize upd Hb D (.lst []) = Hc at Ic fpc w0
  have Id := block_start Ic ok hN fpc
  -- the block
  show codeAny _ _ (.compStart (.ListComp elt [⟨tg, iter, [], 0⟩] scope pos) 0 (.ref it) (.ref D) (compEnvC scope (cellsFrom (sc.heap.objs.size + 1) scope.names (cloFrom X.env.cells scope.names [])) sc.heap.objs.size X.env))
    (compEnds (model X.prog X.w) X.A X.xe none _ (.ref D) (compEnvC scope (cellsFrom (sc.heap.objs.size + 1) scope.names (cloFrom X.env.cells scope.names [])) sc.heap.objs.size X.env)) { sc with heap := pushCells (sc.heap.push { cls := .type "dict", data := .dict #[] }) scope.names }
  have hgB := hg sc Hc sc.heap.objs.size (cellsFrom (sc.heap.objs.size + 1) scope.names (cloFrom X.env.cells scope.names [])) fp
  have heB := he sc Hc sc.heap.objs.size (cellsFrom (sc.heap.objs.size + 1) scope.names (cloFrom X.env.cells scope.names [])) fp
  generalize hce : compEnvC scope (cellsFrom (sc.heap.objs.size + 1) scope.names (cloFrom X.env.cells scope.names [])) sc.heap.objs.size X.env = ce at Id hgB heB ⊢
  have ceL : ce.locals = sc.heap.objs.size := by rw [← hce]; rfl
  have ceF : ce.frame = X.env.frame := by rw [← hce]; rfl
  have std : tn 0 (pushCells (sc.heap.push { cls := .type "dict", data := .dict #[] }) scope.names) := T.keep _ _ _ stc fun b _ o e => pushCells_keeps _ _ _ _ (Heap.get?_push_of_some _ e)
  -- from the block to the def
  have back : ∀ {pins' : List (Addr × Obj)} {σ' : L2.St} {H' : Hp} {s' : Shared}, Inv (X.blk sc Hc scope ce fp) pins' σ' H' s' → Inv X pins σ H' s' ∧ FpOk X pins H' ce.locals ∧ ∃ m, s'.heap.Ns ce.locals m := fun {pins' σ' H' s'} J' => by
    obtain ⟨m, nm, _⟩ := J'.loc
    refine ⟨Ic.call' (ch := fp) J'.os J'.base J'.hok J'.bare fun b hb => ⟨(fpc b hb).1.2.2.2.1, (fpc b hb).1.2.1, (fpc b hb).1.2.2.2.2.1, (fpc b hb).1.2.2.2.2.2⟩, ?_, m, nm⟩
    have fr : H' ce.locals = none := J'.free
    rw [ceL] at fr ⊢
    exact Ic.fpOk (Nat.le_refl _) fr
  have fpB : ∀ {σ' : L2.St} {H' : Hp} {s' : Shared}, Inv (X.blk sc Hc scope ce fp) [] σ' H' s' → (∀ b ∈ fp, H' b = none) → ∀ b ∈ fp, FpOk (X.blk sc Hc scope ce fp) [] H' b := fun {σ' H' s'} J' n b hb =>
    ⟨n b hb, (J'.ok.exf b hb).1, J'.ok.exfs b hb, .inl hb, fun x c e => (J'.ok.exf b hb).2 x c e, fun p hp => absurd (show p ∈ ([] : List (Addr × Obj)) ++ [] from hp) (by simp)⟩
  have loop : codeAny (model X.prog X.w) X.A (.compLoop (.ListComp elt [⟨tg, iter, [], 0⟩] scope pos) 0 (.ref it) (.ref D) ce) (compEnds (model X.prog X.w) X.A X.xe none (fun u s' => ∃ v H', Inv X pins σ H' s' ∧ RelV v u ∧ Q v H') (.ref D) ce) { sc with heap := pushCells (sc.heap.push { cls := .type "dict", data := .dict #[] }) scope.names } := by
    refine compLoop_any (fun n s' => ∃ i H', Inv (X.blk sc Hc scope ce fp) [] (wipe σ (own.map (·.2))) H' s' ∧ tn i s'.heap ∧ (∀ b ∈ fp, H' b = none) ∧ Wd i n H') ?_ m0 ⟨0, Hc, Id, std, fun b hb => (fpc b hb).1.1, w0⟩
    rintro n se ⟨i, He, Ie, ste, ne, we⟩
    rcases turn i n He we with ⟨stop, qq⟩ | ⟨go, Nx, lt, step⟩
    · refine thnF (T.done (X.blk sc Hc scope ce fp) rfl rfl rfl hc i [] se _ He (fun _ _ => False) Ie (fpB Ie ne) ste stop) fun r sf hr => ?_
      obtain ⟨rfl, If⟩ := hr
      obtain ⟨Jf, fC, m, nm⟩ := back If
      refine ⟨m, nm, fun h' sb => ?_⟩
      obtain ⟨c0, c1, c2, c3, c4, c5⟩ := fC
      exact ⟨.ref D, He, Jf.turned (t' := sf.toks) (fun b o hb e => (sb.2 b hb).trans e) c0 c1 c3 c4 c5, rfl, qq⟩
    · refine thnF (T.item (X.blk sc Hc scope ce fp) rfl rfl rfl hc i [] se _ He (fun _ _ => False) Ie (fpB Ie ne) ste go) fun r sf hr => ?_
      obtain ⟨u, rfl, hu⟩ := hr
      refine thnF hu fun _ sg hx => ?_
      obtain ⟨x, Hg, Ig, rx, y, stg, ng⟩ := hx
      refine thnF (hgB.run _ sg _ Hg x u _ (Ig.pinned (fpB Ig ng) (T.obj _ _ stg)) rx (step x Hg y)) fun _ sh hh => ?_
      obtain ⟨σ2, Hh, Ih, hw2, qh⟩ := hh
      refine wpAny_tests_nil ?_
      show wpAny _ _ (eval elt ce) _ _ sh
      refine wpAny_mono ((heB fun cls d H' => W cls d σ H').run _ sh σ2 Hh _ (inv_ex Ih) qh) (fun z si hz => ?_) fun e si hz => ?_
      · obtain ⟨yv, Hi, Ii, ri, acc, hDi, lz, nx⟩ := hz
        refine app_ok (X := X.blk sc Hc scope ce fp) (inv_xe Ii) hDi lz ri fun sj Ij => ?_
        obtain ⟨m', lm, wm⟩ := lt _ nx
        have pins' : ∀ b ∈ fp, ∀ o, sg.heap.get? b = some o → sj.heap.get? b = some o ∧ (upd Hi D (.lst (acc ++ [yv]))) b = none := fun b hb o e => by
          have p := Ij.pin (b, o) (List.mem_append_right _ (List.mem_append_right _ (mem_pinsAt hb e)))
          exact ⟨p.1, p.2.1⟩
        refine ⟨m', lm, i + 1, _, (Ij.unpinned (pins := [])).weak (by rw [← hw2, wipe_length]) (fun j v e => ?_), T.keep _ _ _ stg fun b hb o e => (pins' b hb o e).1, fun b hb => ?_, wm⟩
        · rw [← hw2] at e
          exact (wipe_some e).1
        · obtain ⟨o, e, _⟩ := T.obj _ _ stg b hb
          exact (pins' b hb o e).2
      · obtain ⟨pz, σz, Hz, sz, Iz, cz⟩ := hz
        obtain ⟨Jz, fC, m, nm⟩ := back Iz
        exact comp_out hst hfr tk Jz fC nm ceF (fun _ _ _ w => w) cz
  exact codeAny_compStart_list loop (T.self X.A 0 _ _ _ std loop)
end N
set_option Elab.async false
set_option linter.all false
set_option maxRecDepth 100000
set_option maxHeartbeats 4000000
namespace N
open PySem PySem.Spec PyProof.Rows L2 Evl
/-! ### a dict of the module whose keys are whole numbers -/
def keysI (es : List DictEntry) : Bool := es.all fun e => match e.key with
  | .int i _ => e.hash == hashInt i
  | _ => false
/-- under i stands v -/
def KInt (K : PySem.W.Frag) (a : Addr) (i : Int) (v : V) : Prop := ∃ es n u, K.lookup a = some ⟨.type "dict", none, .dict es n, #[]⟩ ∧ keysI es.toList = true ∧ findBy Value.isInt es i = some u ∧ RelV v u
def rIxI (K : PySem.W.Frag) : R2 := fun x y H Q => ∃ p i v, x = .ref p ∧ y = .int i ∧ KInt K p i v ∧ Q v H
theorem ix_kint {X : Cx} : IxR X (rIxI X.K) := by
  intro value slice pins s σ H x y v u Q I rx ry h hs
  obtain ⟨p, i, r, rfl, rfl, ⟨es, n, u0, hl, hk, hf, ru⟩, q⟩ := h
  obtain rfl : v = Value.ref p := rx
  obtain ⟨t, rfl⟩ := ry
  have hkeys : PySem.KeysOf (intKind X.prog X.w) es := fun e he => by
    have z := List.all_eq_true.mp hk e (Array.mem_toList_iff.mpr he)
    generalize hkey : e.key = ky at z
    cases ky with
    | int j t2 => exact ⟨j, (show Value.isInt j (.int j t2) = true from beq_self_eq_true j), beq_iff_eq.mp z⟩
    | _ => cases z
  have hm : s.heap.MapOf (intKind X.prog X.w) p (fun k => findBy Value.isInt es k) := ⟨_, es, n, I.kIn _ _ hl, ⟨rfl, rfl, rfl⟩, rfl, hkeys, fun _ => rfl⟩
  exact tail_any hm.typeIs PySem.F.slot_dict_getitem.lookup (wpAny_getItem_of (knd := intKind X.prog X.w) (show Value.isInt i (.int i t) = true from beq_self_eq_true i) hm hf ⟨r, H, I.tok _, ru, q⟩) hs
section
variable {X : Cx} {K : PySem.W.Frag} {a b : Expr} {ta tb : TE} {pos : Pos}
theorem pixi (K : PySem.W.Frag) (ha : PE X a ta) (hb : PE X b tb) (hs : PlainIx b := by exact (fun _ _ => rfl)) (hK : X.K = K := by rfl) : PE X (.Subscript a b pos) (tOp (rIxI K) ta tb) := by
  subst hK
  exact pe_ix ix_kint ha hb hs
end
section
variable {K : PySem.W.Frag} {σ : L2.St} {H : Hp} {v : V}
theorem rv_ixI {p : Addr} {i : Int} (h : KInt K p i v) : RV (rIxI K) (.ref p) (.int i) H v := fun H1 _ Q q => ⟨p, i, v, rfl, rfl, h, q H1 (Ex.refl _)⟩
end
/-! ### a dict of the module whose keys are texts -/
def rInKD (K : PySem.W.Frag) (w : World) : R2 := fun x y H Q => ∃ d z es n r, x = .str z ∧ y = .ref d ∧ KDict K w d es n ∧ PySem.W.nsIn K d z = some r ∧ Q (.bl r.isSome) H
theorem op_inKD {X : Cx} : OpR X (compareOp .In) (rInKD X.K X.w) := by
  intro pins s σ H x y v u Q I rx ry h
  obtain ⟨d, z, es, n, r, rfl, rfl, D, e, q⟩ := h
  exact op_in_kd D pins s σ H (.str z) (.ref d) v u Q I rx ry ⟨z, r, rfl, rfl, e, q⟩
section
variable {X : Cx} {a b : Expr} {ta tb : TE} {pos : Pos}
theorem pinK (K : PySem.W.Frag) (w : World) (ha : PE X a ta) (hb : PE X b tb) (hm : behindInMarks .In b = false := by rfl) (hK : X.K = K := by rfl) (hw : X.w = w := by rfl) : PT X (.Compare a [.In] [b] pos) (tTest (tOp (rInKD K w) ta tb)) := by
  subst hK
  subst hw
  exact pt_cmpR op_inKD ha hb hm
theorem pixd (K : PySem.W.Frag) (w : World) (ha : PE X a ta) (hb : PE X b tb) (hs : PlainIx b := by exact (fun _ _ => rfl)) (hK : X.K = K := by rfl) (hw : X.w = w := by rfl) : PE X (.Subscript a b pos) (tOp (rIxD K w) ta tb) := by
  subst hK
  subst hw
  exact pe_ix ix_kdict ha hb hs
end
section
variable {K : PySem.W.Frag} {w : World} {σ : L2.St} {H : Hp}
/-- no such key; a key with two whole numbers -/
def KNo (K : PySem.W.Frag) (w : World) (d : Addr) (z : Str) : Prop := (∃ es n, KDict K w d es n) ∧ PySem.W.nsIn K d z = some none
def KTwo (K : PySem.W.Frag) (w : World) (d : Addr) (z : Str) (i j : Int) : Prop := (∃ es n, KDict K w d es n) ∧ ∃ t, PySem.W.nsIn K d z = some (some (.ref t)) ∧ ∀ H, SqT K H t [.int i, .int j]
theorem rv_kno {d : Addr} {z : Str} (h : KNo K w d z) : RV (rInKD K w) (.str z) (.ref d) H (.bl false) := fun H1 _ Q q => by
  obtain ⟨⟨es, n, D⟩, e⟩ := h
  exact ⟨d, z, es, n, none, rfl, rfl, D, e, q H1 (Ex.refl _)⟩
theorem rv_kyes {d : Addr} {z : Str} {i j : Int} (h : KTwo K w d z i j) : RV (rInKD K w) (.str z) (.ref d) H (.bl true) := fun H1 _ Q q => by
  obtain ⟨⟨es, n, D⟩, t, e, _⟩ := h
  exact ⟨d, z, es, n, some (.ref t), rfl, rfl, D, e, q H1 (Ex.refl _)⟩
theorem ev_kix {ta tb tc : TE} {d : Addr} {z : Str} {i j k x : Int} (h : KTwo K w d z i j) (ha : Ev ta σ H (.ref d)) (hb : Ev tb σ H (.str z)) (hc : Ev tc σ H (.int k)) (hx : atI [V.int i, V.int j] k = some (.int x)) : Ev (tOp (rIxT K) (tOp (rIxD K w) ta tb) tc) σ H (.int x) := by
  obtain ⟨⟨es, n, D⟩, t, e, ht⟩ := h
  refine ev_op (x := .ref t) (ev_op ha hb fun H1 _ Q q => ⟨d, z, .ref t, rfl, rfl, ⟨es, n, .ref t, D.at_, D.lit, e, rfl⟩, q H1 (Ex.refl _)⟩) hc (rv_ixT (ht H) hx)
end
end N
set_option Elab.async false
set_option linter.all false
set_option maxRecDepth 100000
set_option maxHeartbeats 4000000
namespace N
open PySem PySem.Spec PyProof.Rows L2 Evl
open NM (vI FOk)
section
variable {P : Program} {w : World} {K : PySem.W.Frag} {mg : Str → Option Value} {base : Heap} {CW CFa CF CO CN CB CL : Addr}
structure TxtK (mg : Str → Option Value) : Prop where
  len : mg "len" = none
  GREATEST_STATE : gi mg "GREATEST_STATE" 63
  GREATEST_VALUE : gi mg "GREATEST_VALUE" 7
  GREATEST_BYTE : gi mg "GREATEST_BYTE" 255
  GREATEST_LABEL : gi mg "GREATEST_LABEL" 1000
  LONGEST_ROW : gi mg "LONGEST_ROW" 60
  NO_END : gi mg "NO_END" 1000
theorem vints_at {l : List Int} {i : Nat} {x : V} (h : (vints l)[i]? = some x) : ∃ z, l[i]? = some z ∧ V.int z = x := by
  rw [vints, List.getElem?_map] at h
  cases hz : l[i]? with
  | none => rw [hz] at h; cases h
  | some z =>
    rw [hz] at h
    exact ⟨z, rfl, Option.some.inj h⟩
/-- a refusal with this number is raised -/
def Ref (C : Addr) (n : Int) (H : Hp) (E : XK) : Prop := ∀ d H', H d = none → Ex H H' → H' d = some (.xd [("number", .int n)]) → E (.ref C) (some d) H'
theorem Ref.mono {C : Addr} {n : Int} {H G : Hp} {E : XK} (h : Ref C n H E) (e : Ex H G) : Ref C n G E := fun d H' nd e' hx => h d H' (fresh_back e nd) (e.trans e') hx
theorem raise_R {C : Addr} {n : Int} {σ : L2.St} {H : Hp} {k : Nat} {x : Str} {E : XK} (c : Er P w K mg base k x C (spE K n)) (h : Ref C n H E) : tEx C (spE K n) tNil σ H E := by
  obtain ⟨fI, fd, ps, T, _⟩ := c.ex
  exact raise_E T h
-- def rank_number(rank):
--     return -1 if rank == NO_END else rank
-- slots 0:rank
abbrev srank_number : Stmt := top 72
theorem scrank_number : FnScope ["rank"] ["rank"] (defScope srank_number) := ⟨rfl, rfl, rfl, by decide +kernel, rfl, by decide +kernel, by decide +kernel⟩
def sp_rank_number : Sp := pV fun vs _ v => ∃ i : Int, vs = [.int i] ∧ v = .int (if i = 1000 then -1 else i)
theorem ok_rank_number {f : Addr} {fd : FuncData} (F : Fun K "rank_number" "rank_number" srank_number f fd) (T : TxtK mg) : FnOk P w K mg base CX0 1 f fd ["rank"] sp_rank_number := by
  refine F.ok scrank_number (fun vs H Q E h => ?_) (fun cdv A outer s H vs Q E hr h => ?_)
  · obtain ⟨v, ⟨i, rfl, _⟩, _⟩ := h
    rfl
  · obtain ⟨v, ⟨i, rfl, rfl⟩, ret⟩ := h
    refine ⟨_, (pss_one (ps_ret (pe_ifExp (pt_cmpR op_eq (pv 0) (pgi T.NO_END) (nomark _)) (pe_un un_neg pe_int) (pv 0)))), ?_⟩
    refine s_ret (ev_if (b := decide (i = 1000)) (et_test (ev_is (ev_op (ev_var rfl) ev_c (rv_eq rfl)) (by simp))) (fun h => ev_is (ev_un ev_c ru_neg) (by rw [if_pos (of_decide_eq_true h)])) (fun h => ev_is (ev_var rfl) (by rw [if_neg (of_decide_eq_false h)]))) fun H1 e1 => ret H1 e1
-- def counted(numbers):
--     return [len(numbers)] + numbers
-- slots 0:numbers
abbrev scounted : Stmt := top 73
theorem sccounted : FnScope ["numbers"] ["numbers"] (defScope scounted) := ⟨rfl, rfl, rfl, by decide +kernel, rfl, by decide +kernel, by decide +kernel⟩
def sp_counted : Sp := pL fun vs H xs => ∃ (p : Addr) (l : List V), vs = [.ref p] ∧ H p = some (.lst l) ∧ l.length ≤ 40000 ∧ xs = .int (l.length : Int) :: l
theorem ok_counted {f : Addr} {fd : FuncData} (F : Fun K "counted" "counted" scounted f fd) (T : TxtK mg) : FnOk P w K mg base CX0 1 f fd ["numbers"] sp_counted := by
  refine F.ok sccounted (fun vs H Q E h => ?_) (fun cdv A outer s H vs Q E hr h => ?_)
  · obtain ⟨v, ⟨p, l, rfl, _⟩, _⟩ := h
    rfl
  · obtain ⟨v, ⟨p, l, rfl, hp, hl, rfl⟩, ret⟩ := h
    refine ⟨_, (pss_one (ps_ret (pe_op op_cat (pe_lst (pa_cons (plen K T.len (pv 0)) pa_nil)) (pv 0)))), ?_⟩
    exact s_retL (el_catNV (xs := [.int (l.length : Int)]) (el_lst (ea_one (ev_lenE (ev_var rfl) hp rfl)) (Nat.le_of_ble_eq_true rfl)) (ev_var rfl) hp (by simp; omega)) fun q H1 nq e1 hq => ret q H1 nq e1 hq
-- def checked_range(number, least, greatest):
--     if number < least or number > greatest:
--         raise OutOfRange()
--     return number
-- slots 0:number 1:least 2:greatest
abbrev schecked_range : Stmt := top 50
theorem scchecked_range : FnScope ["number", "least", "greatest"] ["number", "least", "greatest"] (defScope schecked_range) := ⟨rfl, rfl, rfl, by decide +kernel, rfl, by decide +kernel, by decide +kernel⟩
def sp_checked_range (CO : Addr) : Sp := fun vs H Q E => ∃ n lo hi : Int, vs = [.int n, .int lo, .int hi] ∧
  if n < lo ∨ hi < n then Ref CO (-3) H E else ∀ H', Ex H H' → Q (.int n) H'
theorem ok_checked_range {f : Addr} {fd : FuncData} (F : Fun K "checked_range" "checked_range" schecked_range f fd) (T : TxtK mg) (x_OutOfRange : Er P w K mg base 2 "OutOfRange" CO (spE K (-3))) : FnOk P w K mg base (L2.CX P w) 4 f fd ["number", "least", "greatest"] (sp_checked_range CO) := by
  refine F.okX scchecked_range (fun vs H Q E h => ?_) (fun cdv A outer s H vs Q E hr h => ?_)
  · obtain ⟨n, g, c, rfl, _⟩ := h
    rfl
  · obtain ⟨n, lo, hi, rfl, hR⟩ := h
    refine ⟨_, (pss_cons (ps_if (PW.pt (pw_or (pt_cmpR op_lt (pv 0) (pv 1) (nomark _)) (pw_or1 (pt_cmpR op_gt (pv 0) (pv 2) (nomark _)))))
        (pss_one (psr0 x_OutOfRange (takes_of rfl rfl rfl rfl) hr (by decide) (by rfl)))
        pss_nil)
      (pss_one (ps_ret (pv 0)))), ?_⟩
    refine q_when (b := decide (n < lo) || decide (hi < n)) (et_is (et_or (et_test (ev_is (ev_op (ev_var rfl) (ev_var rfl) rv_I0) rfl)) fun _ => et_test (ev_is (ev_op (ev_var rfl) (ev_var rfl) rv_I0) rfl)) rfl) (fun hb H1 e1 => ?_) (fun hb H1 e1 => ?_)
    · rw [if_pos (by simpa [Bool.or_eq_true] using hb)] at hR
      exact raise_R x_OutOfRange (hR.mono e1)
    · rw [if_neg (by simpa [Bool.or_eq_false_iff] using hb)] at hR
      exact s_ret (ev_var rfl) fun H3 e3 => hR H3 (e1.trans e3)
-- def checked_number(number, greatest, count):
--     if checked_range(number, 0, greatest) >= count:
--         raise NotThere()
--     return number
-- slots 0:number 1:greatest 2:count
abbrev schecked_number : Stmt := top 51
theorem scchecked_number : FnScope ["number", "greatest", "count"] ["number", "greatest", "count"] (defScope schecked_number) := ⟨rfl, rfl, rfl, by decide +kernel, rfl, by decide +kernel, by decide +kernel⟩
def sp_checked_number (CO CN : Addr) : Sp := fun vs H Q E => ∃ n g c : Int, vs = [.int n, .int g, .int c] ∧
  if n < 0 ∨ g < n then Ref CO (-3) H E else if c ≤ n then Ref CN (-5) H E else ∀ H', Ex H H' → Q (.int n) H'
theorem ok_checked_number {f : Addr} {fd : FuncData} (F : Fun K "checked_number" "checked_number" schecked_number f fd) (T : TxtK mg) (c_checked_range : Cal P w K mg base (L2.CX P w) 4 "checked_range" (sp_checked_range CO)) (x_NotThere : Er P w K mg base 2 "NotThere" CN (spE K (-5))) : FnOk P w K mg base (L2.CX P w) 5 f fd ["number", "greatest", "count"] (sp_checked_number CO CN) := by
  refine F.okX scchecked_number (fun vs H Q E h => ?_) (fun cdv A outer s H vs Q E hr h => ?_)
  · obtain ⟨n, g, c, rfl, _⟩ := h
    rfl
  · obtain ⟨n, g, c, rfl, hR⟩ := h
    refine ⟨_, (pss_cons (ps_if (pt_cmpR op_ge (pcS c_checked_range hr (by decide) (takes_of rfl rfl rfl rfl) (by rfl) (pa_cons (pv 0) (pa_cons pe_int (pa_cons (pv 1) pa_nil)))) (pv 2) (nomark _))
        (pss_one (psr0 x_NotThere (takes_of rfl rfl rfl rfl) hr (by decide) (by rfl)))
        pss_nil)
      (pss_one (ps_ret (pv 0)))), ?_⟩
    refine go_callS (σ := [some (.int n), some (.int g), some (.int c)]) (vs := [.int n, .int 0, .int g]) (ea_cons (ev_var rfl) (ea_two ev_c (ev_var rfl))) fun H1 e1 => ⟨n, 0, g, rfl, ?_⟩
    by_cases h1 : n < 0 ∨ g < n
    · rw [if_pos h1] at hR ⊢
      exact hR.mono e1
    · rw [if_neg h1] at hR ⊢
      intro H2 e2
      have e02 := e1.trans e2
      refine ⟨.int c, rfl, n, c, rfl, rfl, decide (c ≤ n), rfl, ?_⟩
      by_cases h2 : c ≤ n
      · rw [if_pos h2] at hR
        rw [decide_eq_true h2]
        exact raise_R x_NotThere (hR.mono e02)
      · rw [if_neg h2] at hR
        rw [decide_eq_false h2]
        exact s_ret (D := { nx := fun x H' => Q V.non H', rt := Q }) (σ := [some (.int n), some (.int g), some (.int c)]) (te := tVar 0) (ev_var rfl) fun H3 e3 => hR H3 (e02.trans e3)
-- def checked_bytes(codes):
--     for code in codes:
--         if code < 0 or code > GREATEST_BYTE:
--             raise NotBytes()
--     return codes
-- slots 0:codes 1:code
abbrev schecked_bytes : Stmt := top 52
theorem scchecked_bytes : FnScope ["codes", "code"] ["codes"] (defScope schecked_bytes) := ⟨rfl, rfl, rfl, by decide +kernel, rfl, by decide +kernel, by decide +kernel⟩
def sp_checked_bytes (CB : Addr) : Sp := fun vs H Q E => ∃ (p : Addr) (l : List Int), vs = [.ref p] ∧ H p = some (.lst (vints l)) ∧
  if l.all (fun c => decide (0 ≤ c) && decide (c ≤ 255)) = true then ∀ H', Ex H H' → Q (.ref p) H' else Ref CB (-1) H E
theorem ok_checked_bytes {f : Addr} {fd : FuncData} (F : Fun K "checked_bytes" "checked_bytes" schecked_bytes f fd) (T : TxtK mg) (x_NotBytes : Er P w K mg base 2 "NotBytes" CB (spE K (-1))) : FnOk P w K mg base (L2.CX P w) 4 f fd ["codes"] (sp_checked_bytes CB) := by
  refine F.okX scchecked_bytes (fun vs H Q E h => ?_) (fun cdv A outer s H vs Q E hr h => ?_)
  · obtain ⟨p, l, rfl, _⟩ := h
    rfl
  · obtain ⟨p, l, rfl, hp, hR⟩ := h
    refine ⟨_, (pss_cons (ps_for (passes_of rfl) rfl (piList K (pv 0)) (pg_name (i := 1) scchecked_bytes.nd rfl (Or.inl rfl))
        (pss_one (ps_if (PW.pt (pw_or (pt_cmpR op_lt (pv 1) pe_int (nomark _)) (pw_or1 (pt_cmpR op_gt (pv 1) (pgi T.GREATEST_BYTE) (nomark _)))))
        (pss_one (psr0 x_NotBytes (takes_of rfl rfl rfl rfl) hr (by decide) (by rfl)))
        pss_nil)))
      (pss_one (ps_ret (pv 0)))), ?_⟩
    refine q_forLn (ev_var rfl) (sq_of hp) (fun i σ' H' => ∃ v1 : Option V, σ' = [some (.ref p), v1] ∧ Ex H H' ∧ (l.take i).all (fun c => decide (0 ≤ c) && decide (c ≤ 255)) = true)
      (fun H1 e1 => ⟨none, rfl, e1, rfl⟩) (fun i σ' H' _ hP => by obtain ⟨v1, rfl, eH, _⟩ := hP; exact sq_of (eH _ _ hp)) ?_ ?_
    · rintro i x σ' H' hi ⟨v1, rfl, eH, ha⟩
      obtain ⟨z, hz, rfl⟩ := vints_at hi
      refine s_when (b := decide (z < 0) || decide (255 < z)) (et_is (et_or (et_test (ev_is (ev_op (ev_var rfl) ev_c rv_I0) rfl)) fun _ => et_test (ev_is (ev_op (ev_var rfl) ev_c rv_I0) rfl)) rfl) (fun hb H1 e1 => ?_) (fun hb H1 e1 => ?_)
      · rw [if_neg (fun hall => by
          have q := List.all_eq_true.mp hall z (List.mem_of_getElem? hz)
          rw [Bool.and_eq_true, decide_eq_true_eq, decide_eq_true_eq] at q
          rw [Bool.or_eq_true, decide_eq_true_eq, decide_eq_true_eq] at hb
          omega)] at hR
        exact raise_R x_NotBytes (hR.mono (eH.trans e1))
      · rw [Bool.or_eq_false_iff, decide_eq_false_iff_not, decide_eq_false_iff_not] at hb
        refine ⟨_, rfl, eH.trans e1, ?_⟩
        rw [List.take_add_one, hz, List.all_append, ha]
        simp
        omega
    · rintro σ' H' ⟨v1, rfl, eH, ha⟩
      rw [vints_len, List.take_length] at ha
      rw [if_pos ha] at hR
      exact s_ret (ev_var rfl) fun H3 e3 => hR H3 (eH.trans e3)
-- def checked_row(row, count):
--     if len(row) > LONGEST_ROW:
--         raise BadList()
--     for value in row:
--         if value < 0 or value >= count:
--             raise BadList()
--     return row
-- slots 0:row 1:count 2:value
abbrev schecked_row : Stmt := top 53
theorem scchecked_row : FnScope ["row", "count", "value"] ["row", "count"] (defScope schecked_row) := ⟨rfl, rfl, rfl, by decide +kernel, rfl, by decide +kernel, by decide +kernel⟩
def sp_checked_row (CL : Addr) : Sp := fun vs H Q E => ∃ (p : Addr) (l : List Int) (c : Nat), vs = [.ref p, .int (c : Int)] ∧ H p = some (.lst (vints l)) ∧
  if l.length ≤ 60 ∧ l.all (fun v => decide (0 ≤ v) && decide (v < (c : Int))) = true then ∀ H', Ex H H' → Q (.ref p) H' else Ref CL (-4) H E
theorem ok_checked_row {f : Addr} {fd : FuncData} (F : Fun K "checked_row" "checked_row" schecked_row f fd) (T : TxtK mg) (x_BadList : Er P w K mg base 2 "BadList" CL (spE K (-4))) : FnOk P w K mg base (L2.CX P w) 4 f fd ["row", "count"] (sp_checked_row CL) := by
  refine F.okX scchecked_row (fun vs H Q E h => ?_) (fun cdv A outer s H vs Q E hr h => ?_)
  · obtain ⟨p, l, c, rfl, _⟩ := h
    rfl
  · obtain ⟨p, l, c, rfl, hp, hR⟩ := h
    refine ⟨_, (pss_cons (ps_if (pt_cmpR op_gt (plen K T.len (pv 0)) (pgi T.LONGEST_ROW) (nomark _))
        (pss_one (psr0 x_BadList (takes_of rfl rfl rfl rfl) hr (by decide) (by rfl)))
        pss_nil)
      (pss_cons (ps_for (passes_of rfl) rfl (piList K (pv 0)) (pg_name (i := 2) scchecked_row.nd rfl (Or.inl rfl))
        (pss_one (ps_if (PW.pt (pw_or (pt_cmpR op_lt (pv 2) pe_int (nomark _)) (pw_or1 (pt_cmpR op_ge (pv 2) (pv 1) (nomark _)))))
        (pss_one (psr0 x_BadList (takes_of rfl rfl rfl rfl) hr (by decide) (by rfl)))
        pss_nil)))
      (pss_one (ps_ret (pv 0))))), ?_⟩
    refine q_when (b := decide (60 < l.length)) (et_test (ev_is (ev_op (ev_lenE (n := (l.length : Int)) (ev_var rfl) hp (by rw [vints_len])) ev_c rv_I0) (by
      congr 1
      rw [Bool.eq_iff_iff, decide_eq_true_eq, decide_eq_true_eq]
      omega))) (fun hb H1 e1 => ?_) (fun hb H1 e1 => ?_)
    · rw [if_neg (fun h => by have := of_decide_eq_true hb; omega)] at hR
      exact raise_R x_BadList (hR.mono e1)
    · have h60 : l.length ≤ 60 := by have := of_decide_eq_false hb; omega
      refine q_forLn (ev_var rfl) (sq_of (e1 _ _ hp)) (fun i σ' H' => ∃ v1 : Option V, σ' = [some (.ref p), some (.int (c : Int)), v1] ∧ Ex H H' ∧ (l.take i).all (fun v => decide (0 ≤ v) && decide (v < (c : Int))) = true)
        (fun H2 e2 => ⟨none, rfl, e1.trans e2, rfl⟩) (fun i σ' H' _ hP => by obtain ⟨v1, rfl, eH, _⟩ := hP; exact sq_of (eH _ _ hp)) ?_ ?_
      · rintro i x σ' H' hi ⟨v1, rfl, eH, ha⟩
        obtain ⟨z, hz, rfl⟩ := vints_at hi
        refine s_when (b := decide (z < 0) || decide ((c : Int) ≤ z)) (et_is (et_or (et_test (ev_is (ev_op (ev_var rfl) ev_c rv_I0) rfl)) fun _ => et_test (ev_is (ev_op (ev_var rfl) (ev_var rfl) rv_I0) rfl)) rfl) (fun hb H2 e2 => ?_) (fun hb H2 e2 => ?_)
        · rw [if_neg (fun h => by
            have q := List.all_eq_true.mp h.2 z (List.mem_of_getElem? hz)
            rw [Bool.and_eq_true, decide_eq_true_eq, decide_eq_true_eq] at q
            rw [Bool.or_eq_true, decide_eq_true_eq, decide_eq_true_eq] at hb
            omega)] at hR
          exact raise_R x_BadList (hR.mono (eH.trans e2))
        · rw [Bool.or_eq_false_iff, decide_eq_false_iff_not, decide_eq_false_iff_not] at hb
          refine ⟨_, rfl, eH.trans e2, ?_⟩
          rw [List.take_add_one, hz, List.all_append, ha]
          simp
          omega
      · rintro σ' H' ⟨v1, rfl, eH, ha⟩
        rw [vints_len, List.take_length] at ha
        rw [if_pos ⟨h60, ha⟩] at hR
        exact s_ret (ev_var rfl) fun H3 e3 => hR H3 (eH.trans e3)
-- def checked_labels(labels, count):
--     if len(labels) != count:
--         raise BadList()
--     for label in labels:
--         if label < -GREATEST_LABEL or label > GREATEST_LABEL:
--             raise BadList()
--     return labels
-- slots 0:labels 1:count 2:label
abbrev schecked_labels : Stmt := top 54
theorem scchecked_labels : FnScope ["labels", "count", "label"] ["labels", "count"] (defScope schecked_labels) := ⟨rfl, rfl, rfl, by decide +kernel, rfl, by decide +kernel, by decide +kernel⟩
def sp_checked_labels (CL : Addr) : Sp := fun vs H Q E => ∃ (p : Addr) (l : List Int) (c : Nat), vs = [.ref p, .int (c : Int)] ∧ H p = some (.lst (vints l)) ∧
  if l.length = c ∧ l.all (fun v => decide (-1000 ≤ v) && decide (v ≤ 1000)) = true then ∀ H', Ex H H' → Q (.ref p) H' else Ref CL (-4) H E
theorem ok_checked_labels {f : Addr} {fd : FuncData} (F : Fun K "checked_labels" "checked_labels" schecked_labels f fd) (T : TxtK mg) (x_BadList : Er P w K mg base 2 "BadList" CL (spE K (-4))) : FnOk P w K mg base (L2.CX P w) 4 f fd ["labels", "count"] (sp_checked_labels CL) := by
  refine F.okX scchecked_labels (fun vs H Q E h => ?_) (fun cdv A outer s H vs Q E hr h => ?_)
  · obtain ⟨p, l, c, rfl, _⟩ := h
    rfl
  · obtain ⟨p, l, c, rfl, hp, hR⟩ := h
    refine ⟨_, (pss_cons (ps_if (pt_cmpR op_ne (plen K T.len (pv 0)) (pv 1) (nomark _))
        (pss_one (psr0 x_BadList (takes_of rfl rfl rfl rfl) hr (by decide) (by rfl)))
        pss_nil)
      (pss_cons (ps_for (passes_of rfl) rfl (piList K (pv 0)) (pg_name (i := 2) scchecked_labels.nd rfl (Or.inl rfl))
        (pss_one (ps_if (PW.pt (pw_or (pt_cmpR op_lt (pv 2) (pe_un un_neg (pgi T.GREATEST_LABEL)) (nomark _)) (pw_or1 (pt_cmpR op_gt (pv 2) (pgi T.GREATEST_LABEL) (nomark _)))))
        (pss_one (psr0 x_BadList (takes_of rfl rfl rfl rfl) hr (by decide) (by rfl)))
        pss_nil)))
      (pss_one (ps_ret (pv 0))))), ?_⟩
    refine q_when (b := !decide (l.length = c)) (et_test (ev_is (ev_op (ev_lenE (n := (l.length : Int)) (ev_var rfl) hp (by rw [vints_len])) (ev_var rfl) (rv_ne rfl)) (by
      congr 2
      rw [Bool.eq_iff_iff, decide_eq_true_eq, decide_eq_true_eq, V.int.injEq]
      omega))) (fun hb H1 e1 => ?_) (fun hb H1 e1 => ?_)
    · rw [if_neg (fun h => by rw [decide_eq_true h.1] at hb; cases hb)] at hR
      exact raise_R x_BadList (hR.mono e1)
    · have hlc : l.length = c := by simpa using hb
      refine q_forLn (ev_var rfl) (sq_of (e1 _ _ hp)) (fun i σ' H' => ∃ v1 : Option V, σ' = [some (.ref p), some (.int (c : Int)), v1] ∧ Ex H H' ∧ (l.take i).all (fun v => decide (-1000 ≤ v) && decide (v ≤ 1000)) = true)
        (fun H2 e2 => ⟨none, rfl, e1.trans e2, rfl⟩) (fun i σ' H' _ hP => by obtain ⟨v1, rfl, eH, _⟩ := hP; exact sq_of (eH _ _ hp)) ?_ ?_
      · rintro i x σ' H' hi ⟨v1, rfl, eH, ha⟩
        obtain ⟨z, hz, rfl⟩ := vints_at hi
        refine s_when (b := decide (z < -1000) || decide (1000 < z)) (et_is (et_or (et_test (ev_is (ev_op (ev_var rfl) (ev_is (ev_un ev_c ru_neg) rfl) rv_I0) rfl)) fun _ => et_test (ev_is (ev_op (ev_var rfl) ev_c rv_I0) rfl)) rfl) (fun hb H2 e2 => ?_) (fun hb H2 e2 => ?_)
        · rw [if_neg (fun h => by
            have q := List.all_eq_true.mp h.2 z (List.mem_of_getElem? hz)
            rw [Bool.and_eq_true, decide_eq_true_eq, decide_eq_true_eq] at q
            rw [Bool.or_eq_true, decide_eq_true_eq, decide_eq_true_eq] at hb
            omega)] at hR
          exact raise_R x_BadList (hR.mono (eH.trans e2))
        · rw [Bool.or_eq_false_iff, decide_eq_false_iff_not, decide_eq_false_iff_not] at hb
          refine ⟨_, rfl, eH.trans e2, ?_⟩
          rw [List.take_add_one, hz, List.all_append, ha]
          simp
          omega
      · rintro σ' H' ⟨v1, rfl, eH, ha⟩
        rw [vints_len, List.take_length] at ha
        rw [if_pos ⟨hlc, ha⟩] at hR
        exact s_ret (ev_var rfl) fun H3 e3 => hR H3 (eH.trans e3)
end
end N
set_option Elab.async false
set_option linter.all false
set_option maxRecDepth 100000
set_option maxHeartbeats 4000000
namespace N
open PySem PySem.Spec PyProof.Rows L2 Evl
open NM (Thing want thingsOf Fits)
theorem Ex.del {H H' : Hp} (e : Ex H H') (p : Addr) : Ex (del H p) (del H' p) := fun b o h => by
  by_cases z : b = p
  · rw [z, del_same] at h; cases h
  · rw [del_ne z] at h ⊢
    exact e b o h
theorem del_ex (H : Hp) (p : Addr) : Ex (del H p) H := fun b o h => by
  by_cases z : b = p
  · rw [z, del_same] at h; cases h
  · rw [del_ne z] at h
    exact h
theorem del_upd (H : Hp) (p : Addr) (o : HO) : del (upd H p o) p = del H p := funext fun b => by
  by_cases z : b = p
  · rw [z, del_same, del_same]
  · rw [del_ne z, del_ne z, upd_ne z]
theorem del_comm (H : Hp) (p q : Addr) : del (del H p) q = del (del H q) p := funext fun b => by
  unfold L2.del
  split <;> split <;> rfl
theorem del_none {H : Hp} {p : Addr} (h : H p = none) : del H p = H := funext fun b => by
  by_cases z : b = p
  · rw [z, del_same, h]
  · rw [del_ne z]
theorem del_upd2 (H : Hp) (p q : Addr) (o : HO) : del (del (upd H q o) p) q = del (del H p) q := by rw [del_comm, del_upd, del_comm]
/-- what is new in G since H -/
def newH (H G : Hp) : Hp := fun b => match H b with
  | none => G b
  | some _ => none
theorem newH_at {H G : Hp} {b : Addr} (h : H b = none) : newH H G b = G b := by
  unfold newH
  rw [h]
theorem newH_sub (H G : Hp) : Ex (newH H G) G := fun b o h => by
  unfold newH at h
  cases q : H b with
  | none => rw [q] at h; exact h
  | some _ => rw [q] at h; cases h
theorem newH_none {H G : Hp} {b : Addr} {o : HO} (h : newH H G b = some o) : H b = none := by
  unfold newH at h
  cases q : H b with
  | none => rfl
  | some _ => rw [q] at h; cases h
theorem newH_ex {H G G' : Hp} (e : Ex G G') : Ex (newH H G) (newH H G') := fun b o h => by
  have n := newH_none h
  rw [newH_at n] at h ⊢
  exact e b o h
theorem newH_upd {H G : Hp} {p : Addr} {o : HO} (n : H p = none) : newH H (upd G p o) = upd (newH H G) p o := funext fun b => by
  by_cases z : b = p
  · rw [z, newH_at n, upd_same, upd_same]
  · rw [upd_ne z]
    cases q : H b with
    | none => rw [newH_at q, newH_at q, upd_ne z]
    | some _ => unfold newH; rw [q]
def ThAt (H : Hp) (v : V) : Thing → Prop
  | .num i => v = .int i
  | .row x => ∃ p, v = .ref p ∧ H p = some (.lst (vints x))
/-- what a call is given: pairs of kind and thing -/
def Giv (H : Hp) : List Addr → List (List Nat × Thing) → Prop
  | [], [] => True
  | q :: qs, t :: ts => (∃ v, H q = some (.tup [.str (S t.1), v]) ∧ ThAt H v t.2) ∧ Giv H qs ts
  | _, _ => False
def Cls1 (H : Hp) (q : Addr) (c : Int × List (List Nat × Thing)) : Prop := ∃ g qs, H q = some (.tup [.int c.1, .ref g]) ∧ H g = some (.lst (vrefs qs)) ∧ Giv H qs c.2
def Clss (H : Hp) : List Addr → List (Int × List (List Nat × Thing)) → Prop
  | [], [] => True
  | q :: qs, c :: cs => Cls1 H q c ∧ Clss H qs cs
  | _, _ => False
theorem ThAt.ex {H H' : Hp} (e : Ex H H') {v : V} : ∀ {t : Thing}, ThAt H v t → ThAt H' v t
  | .num _, h => h
  | .row _, ⟨p, h1, h2⟩ => ⟨p, h1, e _ _ h2⟩
theorem Giv.ex {H H' : Hp} (e : Ex H H') : ∀ {qs : List Addr} {ts : List (List Nat × Thing)}, Giv H qs ts → Giv H' qs ts
  | [], [], _ => trivial
  | _ :: _, _ :: _, ⟨⟨v, h1, h2⟩, r⟩ => ⟨⟨v, e _ _ h1, h2.ex e⟩, Giv.ex e r⟩
theorem Giv.len {H : Hp} : ∀ {qs : List Addr} {ts : List (List Nat × Thing)}, Giv H qs ts → qs.length = ts.length
  | [], [], _ => rfl
  | _ :: _, _ :: _, h => congrArg Nat.succ (Giv.len h.2)
theorem Giv.snoc {H : Hp} {q : Addr} {t : List Nat × Thing} {v : V} (h1 : H q = some (.tup [.str (S t.1), v])) (h2 : ThAt H v t.2) : ∀ {qs : List Addr} {ts : List (List Nat × Thing)}, Giv H qs ts → Giv H (qs ++ [q]) (ts ++ [t])
  | [], [], _ => ⟨⟨v, h1, h2⟩, trivial⟩
  | _ :: _, _ :: _, h => ⟨h.1, Giv.snoc h1 h2 h.2⟩
theorem Giv.at {H : Hp} : ∀ {qs : List Addr} {ts : List (List Nat × Thing)} {i : Nat} {q : Addr}, Giv H qs ts → qs[i]? = some q → ∃ t v, ts[i]? = some t ∧ H q = some (.tup [.str (S t.1), v]) ∧ ThAt H v t.2
  | [], [], i, q, _, h => by cases i <;> cases h
  | a :: qs, t :: ts, 0, q, h, e => by
    obtain ⟨⟨v, h1, h2⟩, _⟩ := h
    cases e
    exact ⟨t, v, rfl, h1, h2⟩
  | a :: qs, t :: ts, i + 1, q, h, e => Giv.at (i := i) h.2 e
theorem Clss.ex {H H' : Hp} (e : Ex H H') : ∀ {qs : List Addr} {cs : List (Int × List (List Nat × Thing))}, Clss H qs cs → Clss H' qs cs
  | [], [], _ => trivial
  | _ :: _, _ :: _, ⟨⟨g, ps, h1, h2, h3⟩, r⟩ => ⟨⟨g, ps, e _ _ h1, e _ _ h2, h3.ex e⟩, Clss.ex e r⟩
theorem Clss.len {H : Hp} : ∀ {qs : List Addr} {cs : List (Int × List (List Nat × Thing))}, Clss H qs cs → qs.length = cs.length
  | [], [], _ => rfl
  | _ :: _, _ :: _, h => congrArg Nat.succ (Clss.len h.2)
theorem Clss.snoc {H : Hp} {q : Addr} {c : Int × List (List Nat × Thing)} (h1 : Cls1 H q c) : ∀ {qs : List Addr} {cs : List (Int × List (List Nat × Thing))}, Clss H qs cs → Clss H (qs ++ [q]) (cs ++ [c])
  | [], [], _ => ⟨h1, trivial⟩
  | _ :: _, _ :: _, h => ⟨h.1, Clss.snoc h1 h.2⟩
theorem Clss.at {H : Hp} : ∀ {qs : List Addr} {cs : List (Int × List (List Nat × Thing))} {i : Nat} {q : Addr}, Clss H qs cs → qs[i]? = some q → ∃ c, cs[i]? = some c ∧ Cls1 H q c
  | [], [], i, q, _, h => by cases i <;> cases h
  | a :: qs, c :: cs, 0, q, h, e => by
    cases e
    exact ⟨c, rfl, h.1⟩
  | a :: qs, c :: cs, i + 1, q, h, e => Clss.at (i := i) h.2 e
theorem cut_ints {l : List Int} {k n : Nat} (h : k + n ≤ l.length) : cutV (vints l) (some (k : Int)) (some ((k : Int) + (n : Int))) = vints ((l.drop k).take n) := by
  have hl : (vints l).length = l.length := by simp [vints]
  have e1 : HT.sIx (vints l).length 0 (some (k : Int)) = k := by
    rw [HT.sIx_nat, hl]
    omega
  have e2 : HT.sIx (vints l).length (vints l).length (some ((k : Int) + (n : Int))) = k + n := by
    rw [show ((k : Int) + (n : Int)) = ((k + n : Nat) : Int) by omega, HT.sIx_nat, hl]
    omega
  unfold cutV
  rw [e1, e2, vints, vints, ← List.map_drop, Nat.add_sub_cancel_left, ← List.map_take]
section
variable {K : PySem.W.Frag} {σ : L2.St} {H : Hp} {ta tb te : TE} {x : V} {D : Ends}
theorem s_appTup {l : Addr} {xs : List V} {v : V} (hl : H l = some (.lst xs)) (ha : Ev ta σ H (.ref l)) (hb : Ev tb σ H x) (he : Ev te σ H v) (hz : xs.length < 100000)
    (k : ∀ q H1, H q = none → Ex H H1 → H1 q = some (.tup [x, v]) → D.nx σ (upd H1 l (.lst (xs ++ [.ref q])))) : tDrop (tBM K "list" rAppend ta (tCons (tTup (tCons tb (tCons te tNil))) tNil)) D σ H :=
  s_appU hl ha (eu_tup (ea_two hb he) (Nat.le_of_ble_eq_true rfl)) hz k
/-- a pair of a value and a new list is appended -/
theorem s_appTupL {l : Addr} {xs ys : List V} (hl : H l = some (.lst xs)) (ha : Ev ta σ H (.ref l)) (hb : Ev tb σ H x) (he : EvL te σ H ys) (hz : xs.length < 100000)
    (k : ∀ r q H1, H r = none → H q = none → Ex H H1 → H1 r = some (.lst ys) → H1 q = some (.tup [x, .ref r]) → D.nx σ (upd H1 l (.lst (xs ++ [.ref q])))) : tDrop (tBM K "list" rAppend ta (tCons (tTup (tCons tb (tCons te tNil))) tNil)) D σ H :=
  ha H (Ex.refl H) _ fun H1 e1 => ⟨.inl ⟨rfl, xs, sq_of (e1 l _ hl)⟩, hb H1 e1 _ fun H2 e2 => he H2 (e1.trans e2) _ fun r H3 nr e3 hr => ⟨sz_of (Nat.le_of_ble_eq_true rfl), fun q nq => by
    have e13 := (e1.trans e2).trans e3
    have eN := e13.trans (Ex.new (o := HO.tup [x, .ref r]) nq)
    refine ⟨l, xs, .ref q, rfl, rfl, eN _ _ hl, sz_lt hz, ?_⟩
    exact k r q _ (fresh_back (e1.trans e2) nr) (fresh_back e13 nq) eN ((Ex.new nq) _ _ hr) upd_same⟩⟩
end
end N
set_option Elab.async false
set_option linter.all false
set_option maxRecDepth 100000
set_option maxHeartbeats 4000000
namespace N
open PySem PySem.Spec PyProof.Rows L2 Evl
open NM (Thing want thingsOf Fits)
/-- the table of kinds, as the text has it -/
structure TxtP (K : PySem.W.Frag) (mg : Str → Option Value) (aG aL : Addr) (shape : Int → Option (Nat × Nat)) (g : Int → List (List Nat)) (ls : List (List Nat)) : Prop where
  len : mg "len" = none
  GIVEN : mg "GIVEN" = some (.ref aG)
  LISTS : mg "LISTS" = some (.ref aL)
  hL : ∀ H, SqT K H aL (vstrs ls)
  hG : ∀ p n k, shape p = some (n, k) → ∃ aT, KInt K aG p (.ref aT) ∧ ∀ H, SqT K H aT (vstrs (g p))
  few : ∀ p n k, shape p = some (n, k) → (g p).length ≤ 100000
  fits : Fits shape g (fun k => ls.contains k)
section
variable {P : Program} {w : World} {K : PySem.W.Frag} {mg : Str → Option Value} {base : Heap} {aG aL : Addr} {shape : Int → Option (Nat × Nat)} {g : Int → List (List Nat)} {ls : List (List Nat)}
-- def parted(calls):
--     parts = []
--     place = 0
--     while place < len(calls):
--         number = calls[place]
--         place += 1
--         given = []
--         for kind in GIVEN[number]:
--             if kind in LISTS:
--                 end = place + 1 + calls[place]
--                 given.append((kind, calls[place + 1:end]))
--             else:
--                 end = place + 1
--                 given.append((kind, calls[place]))
--             place = end
--         parts.append((number, given))
--     return parts
-- slots 0:calls 1:parts 2:place 3:number 4:given 5:kind 6:end
abbrev sparted : Stmt := top 49
theorem scparted : FnScope ["calls", "parts", "place", "number", "given", "kind", "end"] ["calls"] (defScope sparted) := ⟨rfl, rfl, rfl, by decide +kernel, rfl, by decide +kernel, by decide +kernel⟩
def sp_parted (K : PySem.W.Frag) (shape : Int → Option (Nat × Nat)) (g : Int → List (List Nat)) : Sp := fun vs H Q _ => ∃ (a : Addr) (l : List Int) (raw : List (List (List Int))), vs = [.ref a] ∧ SqL K H a (vints l) ∧ l.length ≤ 1000000 ∧ PyFlat.calls shape l.length l = some raw ∧ raw.length ≤ 1000 ∧
  ∀ p qs H', H p = none → Ex H H' → H' p = some (.lst (vrefs qs)) → Clss (newH H H') qs (raw.map (thingsOf g)) → Q (.ref p) H'
theorem ok_parted {f : Addr} {fd : FuncData} (F : Fun K "parted" "parted" sparted f fd) (T : TxtP K mg aG aL shape g ls) : FnOk P w K mg base CX0 1 f fd ["calls"] (sp_parted K shape g) := by
  refine F.ok scparted (fun vs H Q E h => ?_) (fun cdv A outer s H vs Q E hr h => ?_)
  · obtain ⟨a, l, raw, rfl, _⟩ := h
    rfl
  · obtain ⟨a, l, raw, rfl, ha, hl, hc, h1000, ret⟩ := h
    refine ⟨_, (pss_cons (ps_set (i := 1) scparted.nd rfl (Or.inl rfl) (pe_lst pa_nil))
      (pss_cons (ps_set (i := 2) scparted.nd rfl (Or.inl rfl) pe_int)
      (pss_cons (ps_while PassesOwn.never (pt_cmpR op_lt (pv 2) (plen K T.len (pv 0)) (nomark _))
        (pss_cons (ps_set (i := 3) scparted.nd rfl (Or.inl rfl) (pix K (pv 0) (pv 2)))
      (pss_cons (ps_aug (i := 2) scparted.nd rfl (Or.inl rfl) pe_int ip_add)
      (pss_cons (ps_set (i := 4) scparted.nd rfl (Or.inl rfl) (pe_lst pa_nil))
      (pss_cons (ps_for PassesOwn.never rfl (piTup K (pixi K (pgr T.GIVEN) (pv 3))) (pg_name (i := 5) scparted.nd rfl (Or.inl rfl))
        (Evl.pss_cut (ps_if (pin K (pv 5) (pgr T.LISTS))
        (pss_cons (ps_set (i := 6) scparted.nd rfl (Or.inl rfl) (pe_op op_add (pe_op op_add (pv 2) pe_int) (pix K (pv 0) (pv 2))))
      (pss_one (ps_expr (papp K (pv 4) (pe_tup (pa_cons (pv 5) (pa_cons (pslL K (pv 0) (po_some (pe_op op_add (pv 2) pe_int)) (po_some (pv 6))) pa_nil)))))))
        (pss_cons (ps_set (i := 6) scparted.nd rfl (Or.inl rfl) (pe_op op_add (pv 2) pe_int))
      (pss_one (ps_expr (papp K (pv 4) (pe_tup (pa_cons (pv 5) (pa_cons (pix K (pv 0) (pv 2)) pa_nil))))))))
      (pss_one (ps_set (i := 2) scparted.nd rfl (Or.inl rfl) (pv 6)))))
      (pss_one (ps_expr (papp K (pv 1) (pe_tup (pa_cons (pv 3) (pa_cons (pv 4) pa_nil)))))))))))
      (pss_one (ps_ret (pv 1)))))), ?_⟩
    -- one list stands, the other is new
    have key : ∀ (k : Nat) (v : Int) (r : List Int), l.drop k = v :: r → (vints l)[k]? = some (.int v) ∧ k < l.length ∧ l.drop (k + 1) = r := fun k v r h => by
      have h1 : l[k]? = some v := by
        have z := List.getElem?_drop (xs := l) (i := k) (j := 0)
        rw [h, Nat.add_zero] at z
        exact z.symm
      refine ⟨by rw [vints, List.getElem?_map, h1]; rfl, (List.getElem?_eq_some_iff.mp h1).1, ?_⟩
      rw [← List.drop_drop, h]
      rfl
    refine q_asgL (el_lst ea_nil (by decide)) fun p H1 np e1 hp => ?_
    refine q_asg ev_c fun H2 e2 => ?_
    have e02 := e1.trans e2
    have hp2 := e2 _ _ hp
    show tSeq (tWhile _ _) _ _ [some (.ref a), some (.ref p), some (.int ((0 : Nat) : Int)), none, none, none, none] _
    refine q_while (fun m σ' H' => ∃ (k fuel : Nat) (rest done : List (List (List Int))) (qs : List Addr) (v3 v4 v5 v6 : Option V), σ' = [some (.ref a), some (.ref p), some (.int (k : Int)), v3, v4, v5, v6] ∧ k ≤ l.length ∧ PyFlat.calls shape fuel (l.drop k) = some rest ∧ raw = done ++ rest ∧
        Ex H H' ∧ H' p = some (.lst (vrefs qs)) ∧ Clss (del (newH H H') p) qs (done.map (thingsOf g)) ∧ m = l.length - k)
      l.length ⟨0, l.length, raw, [], [], none, none, none, none, rfl, Nat.zero_le _, hc, rfl, e02, hp2, trivial, rfl⟩ ?_
    rintro m σ' H' ⟨k, fuel, rest, done, qs, v3, v4, v5, v6, rfl, hk, hrest, hraw, e0, hp', hcl, rfl⟩
    have hlen := hcl.len
    rw [List.length_map] at hlen
    have ha' := ex_l e0 ha
    refine ⟨decide (k < l.length), et_test (ev_is (ev_op (ev_var rfl) (ev_len (ev_var rfl) ha') rv_I0) (by
      congr 1
      rw [Bool.eq_iff_iff, decide_eq_true_eq, decide_eq_true_eq, vints_len]
      omega)), fun hb H3 e3 => ?_, fun hb H3 e3 => ?_⟩
    · have hkl := of_decide_eq_true hb
      have e03 := e0.trans e3
      have ha3 := ex_l e03 ha
      -- the call ahead
      cases hd : l.drop k with
      | nil => rw [List.drop_eq_nil_iff] at hd; omega
      | cons num r =>
        obtain ⟨hnum, _, hr⟩ := key k num r hd
        rw [hd] at hrest
        cases fuel with
        | zero => cases hrest
        | succ fuel =>
          replace hrest : (match PyFlat.call shape (num :: r) with
            | none => none
            | some (c, t) => match PyFlat.calls shape fuel t with
              | none => none
              | some cs => some (c :: cs)) = some rest := hrest
          cases hcall : PyFlat.call shape (num :: r) with
          | none => rw [hcall] at hrest; cases hrest
          | some y =>
            obtain ⟨c, t⟩ := y
            rw [hcall] at hrest
            replace hrest : (match PyFlat.calls shape fuel t with
              | none => none
              | some cs => some (c :: cs)) = some rest := hrest
            cases hcs : PyFlat.calls shape fuel t with
            | none => rw [hcs] at hrest; cases hrest
            | some cs =>
              rw [hcs] at hrest
              cases hrest
              obtain ⟨n, kk, all, hsh, hw, hth, hal⟩ := NM.call_want T.fits hcall
              obtain ⟨aT, hKI, hST⟩ := T.hG num n kk hsh
              have d1000 : done.length ≤ 1000 := by
                rw [hraw, List.length_append] at h1000
                omega
              refine ⟨fun σ' H' => ∃ (k' fuel : Nat) (rest done : List (List (List Int))) (qs : List Addr) (v3 v4 v5 v6 : Option V), σ' = [some (.ref a), some (.ref p), some (.int (k' : Int)), v3, v4, v5, v6] ∧ k' ≤ l.length ∧ PyFlat.calls shape fuel (l.drop k') = some rest ∧ raw = done ++ rest ∧
                Ex H H' ∧ H' p = some (.lst (vrefs qs)) ∧ Clss (del (newH H H') p) qs (done.map (thingsOf g)) ∧ k < k', ?_, ?_⟩
              · rintro σ2 H4 ⟨k', f', rest', done', qs', w3, w4, w5, w6, h1, h2, h3, h4, h5, h6, h7, h8⟩
                exact ⟨l.length - k', by omega, k', f', rest', done', qs', w3, w4, w5, w6, h1, h2, h3, h4, h5, h6, h7, rfl⟩
              · refine q_asg (ev_op (ev_var rfl) (ev_var rfl) (rv_ixL ha3 (atI_nat hnum))) fun H4 e4 => ?_
                refine q_aug rfl ev_c fun H5 e5 => ?_
                refine q_asgL (el_lst ea_nil (by decide)) fun gg H6 ng e6 hg => ?_
                have e36 := e4.trans (e5.trans e6)
                have e06 := e03.trans e36
                have hp6 := e36 _ _ (e3 _ _ hp')
                have npg : p ≠ gg := ne_of_none ((e4.trans e5) _ _ (e3 _ _ hp')) ng
                have ng' : H' gg = none := fresh_back (e3.trans (e4.trans e5)) ng
                have ngH : H gg = none := fresh_back e0 ng'
                have hcl6 : Clss (del (del (newH H H6) p) gg) qs (done.map (thingsOf g)) := by
                  have e7 : Ex (del (newH H H') p) (del (del (newH H H6) p) gg) := by
                    have z : del (del (newH H H') p) gg = del (newH H H') p := del_none ((del_ne (Ne.symm npg)).trans ((newH_at ngH).trans ng'))
                    rw [← z]
                    exact Ex.del (Ex.del (newH_ex (e3.trans e36)) p) gg
                  exact hcl.ex e7
                show tSeq (tFor _ _ _) _ _ [some (.ref a), some (.ref p), some (.int ((k : Int) + 1)), some (.int num), some (.ref gg), v5, v6] _
                refine q_forT (xs := vstrs (g num)) (ev_op ev_c (ev_var rfl) (rv_ixI hKI)) (hST _) (fun i σ' H' => ∃ (k' : Nat) (ts us : List Thing) (qg : List Addr) (w5 w6 : Option V), σ' = [some (.ref a), some (.ref p), some (.int (k' : Int)), some (.int num), some (.ref gg), w5, w6] ∧ k < k' ∧ k' ≤ l.length ∧
                    want (fun k => ls.contains k) ((g num).drop i) (l.drop k') = some (us, t) ∧ all = ts ++ us ∧ ts.length = i ∧ Ex H H' ∧ H' p = some (.lst (vrefs qs)) ∧ H' gg = some (.lst (vrefs qg)) ∧ Giv (del (del (newH H H') p) gg) qg (((g num).take i).zip ts) ∧ Clss (del (del (newH H H') p) gg) qs (done.map (thingsOf g)))
                  (fun H7 e7 => ⟨k + 1, [], all, [], v5, v6, by rw [show ((k + 1 : Nat) : Int) = (k : Int) + 1 by omega], by omega, by omega, by rw [hr]; exact hw, rfl, rfl, e06.trans e7, e7 _ _ hp6, e7 _ _ hg, trivial, hcl6.ex (Ex.del (Ex.del (newH_ex e7) p) gg)⟩)
                  (fun i σ' H' _ _ => hST _) ?_ ?_
                · rintro i x σ7 H7 hi ⟨k', ts, us, qg, w5, w6, rfl, hk1, hk2, hwt, hal2, hti, e07, hp7, hg7, hgv, hcl7⟩
                  rw [vstrs, List.getElem?_map] at hi
                  cases hki : (g num)[i]? with
                  | none => rw [hki] at hi; cases hi
                  | some kd =>
                    rw [hki] at hi
                    obtain rfl : V.str (S kd) = x := Option.some.inj hi
                    have hil := (List.getElem?_eq_some_iff.mp hki).1
                    have hdr : (g num).drop i = kd :: (g num).drop (i + 1) := by
                      rw [List.drop_eq_getElem_cons hil]
                      congr 1
                      exact (List.getElem?_eq_some_iff.mp hki).2
                    have htk : ∀ th, ((g num).take (i + 1)).zip (ts ++ [th]) = ((g num).take i).zip ts ++ [(kd, th)] := fun th => by
                      rw [List.take_add_one, hki, List.zip_append (by rw [List.length_take, hti]; omega)]
                      rfl
                    rw [hdr] at hwt
                    unfold NM.want at hwt
                    have ha7 := ex_l e07 ha
                    have npq : gg ≠ p := Ne.symm npg
                    have hgl := hgv.len
                    have zl : (((g num).take i).zip ts).length ≤ i := by rw [List.length_zip, List.length_take]; omega
                    have i2 : i < 100000 := by
                      have := hST H7
                      have z : (g num).length ≤ 100000 := T.few num n kk hsh
                      omega
                    refine q_cut (M := fun σ8 H8 => ∃ (k2 : Nat) (th : Thing) (us' : List Thing) (qg' : List Addr), σ8 = [some (.ref a), some (.ref p), some (.int (k' : Int)), some (.int num), some (.ref gg), some (.str (S kd)), some (.int (k2 : Int))] ∧ k < k2 ∧ k2 ≤ l.length ∧ want (fun k => ls.contains k) ((g num).drop (i + 1)) (l.drop k2) = some (us', t) ∧ us = th :: us' ∧
                      Ex H H8 ∧ H8 p = some (.lst (vrefs qs)) ∧ H8 gg = some (.lst (vrefs qg')) ∧ Giv (del (del (newH H H8) p) gg) qg' (((g num).take (i + 1)).zip (ts ++ [th])) ∧ Clss (del (del (newH H H8) p) gg) qs (done.map (thingsOf g))) ?_ ?_
                    · by_cases hL : ls.contains kd = true
                      · rw [if_pos hL] at hwt
                        cases hrow : PyFlat.row (l.drop k') with
                        | none => rw [hrow] at hwt; cases hwt
                        | some y =>
                          obtain ⟨xr, s'⟩ := y
                          rw [hrow] at hwt
                          replace hwt : (want (fun k => ls.contains k) ((g num).drop (i + 1)) s').map (fun y => (Thing.row xr :: y.1, y.2)) = some (us, t) := hwt
                          cases hw2 : want (fun k => ls.contains k) ((g num).drop (i + 1)) s' with
                          | none => rw [hw2] at hwt; cases hwt
                          | some z =>
                            obtain ⟨us', t'⟩ := z
                            rw [hw2] at hwt
                            cases hwt
                            obtain ⟨nr, hv, hnl, hxr, hs'⟩ := NM.row_drop hrow
                            obtain ⟨hat, hklt, hd1⟩ := key k' _ _ hv
                            rw [List.drop_drop] at hnl hs' hxr
                            rw [List.length_drop] at hnl
                            refine s_if (b := true) (et_test (ev_is (ev_op (ev_var rfl) ev_c (rv_isT (T.hL _) rfl (flat_strs _))) (by rw [inV_strs, hL]))) (fun _ H8 e8 => ?_) (fun z => by cases z)
                            have ha8 := ex_l e8 ha7
                            refine q_asg (v := .int ((k' + 1 + nr : Nat) : Int)) (ev_is (ev_op (ev_op (ev_var rfl) ev_c rv_I0) (ev_op (ev_var rfl) (ev_var rfl) (rv_ixL ha8 (atI_nat hat))) rv_I0) (by congr 1)) fun H9 e9 => ?_
                            have ha9 := ex_l e9 ha8
                            have e79 := e8.trans e9
                            refine s_appTupL (x := .str (S kd)) (ys := vints xr) (e79 _ _ hg7) (ev_var rfl) (ev_var rfl) (by
                              have k0 := el_sl (K := K) (te := tVar 0) (tl := tPart (tOp (rI0 fun i j => V.int (i + j)) (tVar 2) (tC (V.int 1)))) (th := tPart (tVar 6)) (σ := [some (.ref a), some (.ref p), some (.int (k' : Int)), some (.int num), some (.ref gg), some (.str (S kd)), some (.int ((k' + 1 + nr : Nat) : Int))]) (H := H9) (ev_var rfl) (eo_some (i := ((k' + 1 : Nat) : Int)) (ev_op (ev_var rfl) ev_c rv_I0)) (eo_some (i := ((k' + 1 : Nat) : Int) + (nr : Int)) (ev_is (ev_var rfl) (by congr 1))) ha9
                              rw [cut_ints (by omega)] at k0
                              rw [hxr]
                              exact k0) (by rw [vrefs_len]; omega) fun rr q H10 nrr nq e10 hrr hq => ?_
                            have e710 := e79.trans e10
                            have hg10 := e710 _ _ hg7
                            have hp10 := e710 _ _ hp7
                            have q1 : q ≠ p := fun z => by rw [z, (e79 _ _ hp7)] at nq; cases nq
                            have q2 : q ≠ gg := fun z => by rw [z, (e79 _ _ hg7)] at nq; cases nq
                            have r1 : rr ≠ p := fun z => by rw [z, (e79 _ _ hp7)] at nrr; cases nrr
                            have r2 : rr ≠ gg := fun z => by rw [z, (e79 _ _ hg7)] at nrr; cases nrr
                            refine ⟨k' + 1 + nr, .row xr, us', qg ++ [q], rfl, by omega, by omega, by rw [show k' + 1 + nr = k' + (1 + nr) by omega, ← hs']; exact hw2, rfl, Ex.mut (e07.trans e710) ngH, by rw [upd_ne npg]; exact hp10, by rw [upd_same, vrefs, vrefs, List.map_append]; rfl, ?_, by rw [newH_upd ngH, del_upd2]; exact hcl7.ex (Ex.del (Ex.del (newH_ex e710) p) gg)⟩
                            rw [newH_upd ngH, del_upd2, htk]
                            exact Giv.snoc (t := (kd, .row xr)) (v := .ref rr) ((del_ne q2).trans ((del_ne q1).trans ((newH_at (fresh_back (e07.trans e79) nq)).trans hq))) ⟨rr, rfl, (del_ne r2).trans ((del_ne r1).trans ((newH_at (fresh_back (e07.trans e79) nrr)).trans hrr))⟩ (hgv.ex (Ex.del (Ex.del (newH_ex e710) p) gg))
                      · rw [if_neg hL] at hwt
                        cases hdk : l.drop k' with
                        | nil => rw [hdk] at hwt; cases hwt
                        | cons v s' =>
                          rw [hdk] at hwt
                          replace hwt : (want (fun k => ls.contains k) ((g num).drop (i + 1)) s').map (fun y => (Thing.num v :: y.1, y.2)) = some (us, t) := hwt
                          cases hw2 : want (fun k => ls.contains k) ((g num).drop (i + 1)) s' with
                          | none => rw [hw2] at hwt; cases hwt
                          | some z =>
                            obtain ⟨us', t'⟩ := z
                            rw [hw2] at hwt
                            cases hwt
                            obtain ⟨hat, hklt, hd1⟩ := key k' v s' hdk
                            refine s_if (b := false) (et_test (ev_is (ev_op (ev_var rfl) ev_c (rv_isT (T.hL _) rfl (flat_strs _))) (by rw [inV_strs, Bool.not_eq_true _ |>.mp hL]))) (fun z => by cases z) (fun _ H8 e8 => ?_)
                            have ha8 := ex_l e8 ha7
                            refine q_asg (v := .int ((k' + 1 : Nat) : Int)) (ev_is (ev_op (ev_var rfl) ev_c rv_I0) (by congr 1)) fun H9 e9 => ?_
                            have ha9 := ex_l e9 ha8
                            have e79 := e8.trans e9
                            refine s_appTup (x := .str (S kd)) (v := .int v) (e79 _ _ hg7) (ev_var rfl) (ev_var rfl) (ev_op (ev_var rfl) (ev_var rfl) (rv_ixL ha9 (atI_nat hat))) (by rw [vrefs_len]; omega) fun q H10 nq e10 hq => ?_
                            have e710 := e79.trans e10
                            have hg10 := e710 _ _ hg7
                            have hp10 := e710 _ _ hp7
                            have q1 : q ≠ p := fun z => by rw [z, (e79 _ _ hp7)] at nq; cases nq
                            have q2 : q ≠ gg := fun z => by rw [z, (e79 _ _ hg7)] at nq; cases nq
                            refine ⟨k' + 1, .num v, us', qg ++ [q], rfl, by omega, by omega, by rw [hd1]; exact hw2, rfl, Ex.mut (e07.trans e710) ngH, by rw [upd_ne npg]; exact hp10, by rw [upd_same, vrefs, vrefs, List.map_append]; rfl, ?_, by rw [newH_upd ngH, del_upd2]; exact hcl7.ex (Ex.del (Ex.del (newH_ex e710) p) gg)⟩
                            rw [newH_upd ngH, del_upd2, htk]
                            exact Giv.snoc (t := (kd, .num v)) (v := .int v) ((del_ne q2).trans ((del_ne q1).trans ((newH_at (fresh_back (e07.trans e79) nq)).trans hq))) rfl (hgv.ex (Ex.del (Ex.del (newH_ex e710) p) gg))
                    · rintro σ8 H8 ⟨k2, th, us', qg', rfl, h1, h2, h3, rfl, h5, h6, h7, h8, h9⟩
                      refine s_asg (ev_var rfl) fun H9 e9 => ?_
                      exact ⟨k2, ts ++ [th], us', qg', _, _, rfl, h1, h2, h3, by rw [hal2, List.append_assoc]; rfl, by rw [List.length_append, hti]; rfl, h5.trans e9, e9 _ _ h6, e9 _ _ h7, h8.ex (Ex.del (Ex.del (newH_ex e9) p) gg), h9.ex (Ex.del (Ex.del (newH_ex e9) p) gg)⟩
                · rintro σ7 H7 ⟨k', ts, us, qg, w5, w6, rfl, hk1, hk2, hwt, hal2, hti, e07, hp7, hg7, hgv, hcl7⟩
                  have gl : (vstrs (g num)).length = (g num).length := by simp [vstrs]
                  rw [gl] at hwt hgv
                  rw [List.drop_length] at hwt
                  rw [List.take_length] at hgv
                  cases hwt
                  rw [List.append_nil] at hal2
                  subst hal2
                  refine s_appTup (x := .int num) (v := .ref gg) hp7 (ev_var rfl) (ev_var rfl) (ev_var rfl) (by rw [vrefs_len]; omega) fun q H8 nq e8 hq => ?_
                  have q1 : q ≠ p := fun z => by rw [z, hp7] at nq; cases nq
                  have npq : gg ≠ p := Ne.symm npg
                  have e2' : Ex (del (del (newH H H7) p) gg) (del (newH H H8) p) := (del_ex _ _).trans (Ex.del (newH_ex e8) p)
                  refine ⟨k', fuel, cs, done ++ [c], qs ++ [q], _, _, _, _, rfl, hk2, hcs, by rw [hraw, List.append_assoc]; rfl, Ex.mut (e07.trans e8) np, by rw [upd_same, vrefs, vrefs, List.map_append]; rfl, ?_, hk1⟩
                  rw [newH_upd np, del_upd, List.map_append]
                  refine Clss.snoc (c := thingsOf g c) ?_ (hcl7.ex e2')
                  rw [hth]
                  exact ⟨gg, qg, (del_ne q1).trans ((newH_at (fresh_back e07 nq)).trans hq), (del_ne npq).trans ((newH_at ngH).trans (e8 _ _ hg7)), hgv.ex e2'⟩
    · have hkl := of_decide_eq_false hb
      have hdn : l.drop k = [] := List.drop_eq_nil_iff.mpr (by omega)
      rw [hdn] at hrest
      have hr0 : rest = [] := by
        cases fuel <;> (cases hrest; rfl)
      subst hr0
      rw [List.append_nil] at hraw
      subst hraw
      exact s_ret (ev_var rfl) fun H4 e4 => ret p qs H4 (by exact np) (e0.trans (e3.trans e4)) ((e3.trans e4) _ _ hp') (hcl.ex ((del_ex _ _).trans (newH_ex (e3.trans e4))))
end
end N
set_option Elab.async false
set_option linter.all false
set_option maxRecDepth 100000
set_option maxHeartbeats 4000000
namespace N
open PySem PySem.Spec PyProof.Rows L2 Evl
open NM (vI FOk)
def fC (f : Addr) (s n : Nat) : List (Str × V) := [("field", .ref f), ("state", .int (s : Int)), ("changes", .int (n : Int))]
def fD (f c : Addr) : List (Str × V) := [("field", .ref f), ("card", .ref c)]
theorem fC_field {f : Addr} {s n : Nat} : (fC f s n).lookup ("field" : Str) = some (.ref f) := lk_here
theorem fC_state {f : Addr} {s n : Nat} : (fC f s n).lookup ("state" : Str) = some (.int (s : Int)) := (lk_past (by decide +kernel)).trans lk_here
theorem fC_changes {f : Addr} {s n : Nat} : (fC f s n).lookup ("changes" : Str) = some (.int (n : Int)) := (lk_past (by decide +kernel)).trans ((lk_past (by decide +kernel)).trans lk_here)
theorem fC_no {f : Addr} {s n : Nat} {m : Str} (h : (["field", "state", "changes"] : List Str).all (fun g => !(m == g)) = true) : (fC f s n).lookup m = none := by
  simp only [List.all_cons, List.all_nil, Bool.and_true, Bool.and_eq_true, Bool.not_eq_true'] at h
  obtain ⟨h1, h2, h3⟩ := h
  exact (lk_past h1).trans ((lk_past h2).trans ((lk_past h3).trans lk_nil))
theorem fC_putS {f : Addr} {s t n : Nat} : putF ("state" : Str) (.int (t : Int)) (fC f s n) = fC f t n := (if_neg (by decide +kernel)).trans (congrArg _ (if_pos rfl))
theorem fC_putC {f : Addr} {s n m : Nat} : putF ("changes" : Str) (.int (m : Int)) (fC f s n) = fC f s m := (if_neg (by decide +kernel)).trans (congrArg _ ((if_neg (by decide +kernel)).trans (congrArg _ (if_pos rfl))))
theorem fD_field {f c : Addr} : (fD f c).lookup ("field" : Str) = some (.ref f) := lk_here
theorem fD_card {f c : Addr} : (fD f c).lookup ("card" : Str) = some (.ref c) := (lk_past (by decide +kernel)).trans lk_here
theorem fD_lay {f c : Addr} : (fD f c).lookup ("lay" : Str) = none := (lk_past (by decide +kernel)).trans ((lk_past (by decide +kernel)).trans rfl)
theorem fD_renew {f c : Addr} : (fD f c).lookup ("renew" : Str) = none := (lk_past (by decide +kernel)).trans ((lk_past (by decide +kernel)).trans rfl)
def CardAt (CC : Addr) (H : Hp) (c f : Addr) (s n : Nat) : Prop := ∃ dx, H c = some (.ins CC dx (fC f s n))
/-- the desk with its field and its card -/
structure DeskAt (CD CC CF : Addr) (H : Hp) (a : Addr) (st : Vbenaf.State) : Prop where
  ex : ∃ dx f c, H a = some (.ins CD dx (fD f c)) ∧ FldW CF H f st.field (NM.rkAll st.field) (NM.bsAll st.field) ∧ CardAt CC H c f st.now st.made
  ok : FOk st.field
  nw : st.now < Vbenaf.states st.field
/-- lists and tuples stay -/
def ExT (H H' : Hp) : Prop := (∀ b xs, H b = some (.lst xs) → H' b = some (.lst xs)) ∧ ∀ b xs, H b = some (.tup xs) → H' b = some (.tup xs)
theorem ExT.of {H H' : Hp} (e : Ex H H') : ExT H H' := ⟨fun b xs h => e _ _ h, fun b xs h => e _ _ h⟩
theorem ExT.trans {H H1 H2 : Hp} (e : ExT H H1) (d : ExT H1 H2) : ExT H H2 := ⟨fun b xs h => d.1 _ _ (e.1 _ _ h), fun b xs h => d.2 _ _ (e.2 _ _ h)⟩
theorem ExT.ofB {a C dx : Addr} {fs : List (Str × V)} {H H' : Hp} (e : ExB a H H') (ha : H a = some (.ins C dx fs)) : ExT H H' :=
  ⟨fun b xs h => e _ _ (ne_of h ha (by intro z; cases z)) h, fun b xs h => e _ _ (ne_of h ha (by intro z; cases z)) h⟩
structure TxtD (K : PySem.W.Frag) (mg : Str → Option Value) (CD CC CF : Addr) : Prop extends Txt K mg CF where
  cD : Cls K CD
  nField : NoAttr K CD "field"
  nCard : NoAttr K CD "card"
  cC : Cls K CC
  nFieldC : NoAttr K CC "field"
  nState : NoAttr K CC "state"
  nChanges : NoAttr K CC "changes"
section
variable {P : Program} {w : World} {K : PySem.W.Frag} {mg : Str → Option Value} {base : Heap} {CW CFa CF CD CC CNA CHN CWW : Addr}
-- def __init__(self, field):
--     self.field = field
--     self.state = 0
--     self.changes = 0
-- slots 0:self 1:field
abbrev sCard_init : Stmt := inClass (top 101) 0
theorem scCard_init : FnScope ["self", "field"] ["self", "field"] (defScope sCard_init) := ⟨rfl, rfl, rfl, by decide +kernel, rfl, by decide +kernel, by decide +kernel⟩
def spC_init (CC : Addr) : Sp := fun vs H Q _ => ∃ (a dx f : Addr), vs = [.ref a, .ref f] ∧ H a = some (.ins CC dx []) ∧ ∀ H', ExB a H H' → H' a = some (.ins CC dx (fC f 0 0)) → Q .non H'
theorem okC_init {f : Addr} {fd : FuncData} (F : Fun K "__init__" "Card.__init__" sCard_init f fd) (T : TxtD K mg CD CC CF) : FnOk P w K mg base CX0 1 f fd ["self", "field"] (spC_init CC) := by
  refine F.ok scCard_init (fun vs H Q E h => ?_) (fun cdv A outer s H vs Q E hr h => ?_)
  · obtain ⟨a, dx, f, rfl, _⟩ := h
    rfl
  · obtain ⟨a, dx, f, rfl, ha, ret⟩ := h
    refine ⟨_, (pss_cons (psfld K (pv 0) (pv 1))
      (pss_cons (psfld K (pv 0) pe_int)
      (pss_one (psfld K (pv 0) pe_int)))), ?_⟩
    refine q_add [] (ev_var rfl) (ev_var rfl) ha T.cC T.nFieldC rfl (by decide +kernel) (by decide) fun G0 a0 b0 => ?_
    refine q_add ["field"] (ev_var rfl) ev_c a0 T.cC T.nState rfl (by decide +kernel) (by decide) fun G1 a1 b1 => ?_
    refine s_add ["field", "state"] (ev_var rfl) ev_c a1 T.cC T.nChanges rfl (by decide +kernel) (by decide) fun G2 a2 b2 => ?_
    exact ret G2 (b0.trans (b1.trans b2)) a2
-- def change(self, value):
--     if self.field.table[self.state] == value:
--         return
--     if value not in self.field.asked(self.state):
--         raise NotAsked()
--     way = self.field.best[self.state][value]
--     if way == NO_WAY:
--         raise WithoutWay()
--     self.state = way
--     self.changes += 1
-- slots 0:self 1:value 2:way
abbrev sCard_change : Stmt := inClass (top 101) 1
theorem scCard_change : FnScope ["self", "value", "way"] ["self", "value"] (defScope sCard_change) := ⟨rfl, rfl, rfl, by decide +kernel, rfl, by decide +kernel, by decide +kernel⟩
def spC_change (CC CF CNA CWW : Addr) : Sp := fun vs H Q E => ∃ (a dx f : Addr) (fl : Fld) (s n w : Nat), vs = [.ref a, .int (w : Int)] ∧ H a = some (.ins CC dx (fC f s n)) ∧ FldAt CF H f fl ∧ s < Vbenaf.states fl ∧ w < fl.values.length ∧
  if Vbenaf.valueOf fl s = some w then ∀ H', Ex H H' → Q .non H'
  else if (Vbenaf.asked fl s).contains w = false then Ref CNA (-6) H E
  else match Vbenaf.goTo fl s w with
    | none => Ref CWW (-7) H E
    | some t => ∀ H', ExB a H H' → H' a = some (.ins CC dx (fC f t (n + 1))) → Q .non H'
theorem inV_nats (l : List Nat) (w : Nat) : inV (.int (w : Int)) (vnats l) = l.contains w := by
  unfold inV vnats
  rw [List.any_map, Bool.eq_iff_iff, List.any_eq_true, List.contains_iff_mem]
  constructor
  · rintro ⟨y, hy, h⟩
    have h : ((y : Int) == (w : Int)) = true := h
    rw [beq_iff_eq] at h
    have : y = w := by omega
    rw [← this]
    exact hy
  · exact fun h => ⟨w, h, by show ((w : Int) == (w : Int)) = true; simp⟩
theorem flat_nats (l : List Nat) : (vnats l).all flatV = true := by
  unfold vnats
  rw [List.all_map, List.all_eq_true]
  exact fun _ _ => rfl
theorem okC_change {f : Addr} {fd : FuncData} (F : Fun K "change" "Card.change" sCard_change f fd) (T : TxtD K mg CD CC CF) (m_Field_asked : Met P w K mg base CX0 2 CF "asked" (spAsked CF)) (x_NotAsked : Er P w K mg base 2 "NotAsked" CNA (spE K (-6))) (x_WithoutWay : Er P w K mg base 2 "WithoutWay" CWW (spE K (-7))) : FnOk P w K mg base (L2.CX P w) 4 f fd ["self", "value"] (spC_change CC CF CNA CWW) := by
  refine F.okX scCard_change (fun vs H Q E h => ?_) (fun cdv A outer s H vs Q E hr h => ?_)
  · obtain ⟨a, dx, f, fl, s, n, w, rfl, _⟩ := h
    rfl
  · obtain ⟨a, dx, f, fl, s, n, wv, rfl, ha, hA, hs, hw, hR⟩ := h
    have ok := hA.ok
    obtain ⟨A, hL⟩ := id hA.fw
    refine ⟨_, (pss_cons (ps_if (pt_cmpR op_eq (pix K (pfld K (pfld K (pv 0))) (pfld K (pv 0))) (pv 1) (nomark _))
        (pss_one ps_retN)
        pss_nil)
      (pss_cons (ps_if (pnin K (pv 1) (pmt m_Field_asked hr (by decide) (pfld K (pv 0)) (pa_cons (pfld K (pv 0)) pa_nil)))
        (pss_one (psr0 x_NotAsked (takes_of rfl rfl rfl rfl) hr (by decide) (by rfl)))
        pss_nil)
      (pss_cons (ps_set (i := 2) scCard_change.nd rfl (Or.inl rfl) (pix K (pix K (pfld K (pfld K (pv 0))) (pfld K (pv 0))) (pv 1)))
      (pss_cons (ps_if (pt_cmpR op_eq (pv 2) (pgi T.NO_WAY) (nomark _))
        (pss_one (psr0 x_WithoutWay (takes_of rfl rfl rfl rfl) hr (by decide) (by rfl)))
        pss_nil)
      (pss_cons (psfld K (pv 0) (pv 2))
      (pss_one (psfldaug K (pv 0) pe_int in_add))))))), ?_⟩
    refine q_when (b := decide (Vbenaf.valueOf fl s = some wv)) (et_test (ev_is (ev_op (v_ix (fl := fl) (ev_fld (ev_fld (ev_var rfl) ha T.cC T.nFieldC fC_field) hL.o T.cF T.nTable fF_table) hL.t (ev_fld (ev_var rfl) ha T.cC T.nState fC_state) ok hs) (ev_var rfl) (rv_eq rfl)) (NM.bl_vI_eq _ _))) (fun hc H1 e1 => ?_) (fun hc H1 e1 => ?_)
    · rw [if_pos (of_decide_eq_true hc)] at hR
      exact hR H1 e1
    · rw [if_neg (of_decide_eq_false hc)] at hR
      refine q_when (b := !(Vbenaf.asked fl s).contains wv) (et_test (ev_is (ev_opVL (ev_var (i := 1) rfl) (el_mth (ev_fld (ev_var rfl) (e1 _ _ ha) T.cC T.nFieldC fC_field) (e1 _ _ hL.o) (fF_no (by decide +kernel)) (ea_one (ev_fld (ev_var rfl) (e1 _ _ ha) T.cC T.nState fC_state)) (pL.sp fun H2 e2 => ⟨f, s, fl, _, _, rfl, hA.fw.ex (e1.trans e2), ok, hs, rfl⟩)) fun q H2 hq e2 => rv_niL (sq_of hq) rfl (flat_nats _)) (by rw [inV_nats]))) (fun hn H2 e2 => ?_) (fun hn H2 e2 => ?_)
      · rw [if_pos (by simpa using hn)] at hR
        exact raise_R x_NotAsked (hR.mono (e1.trans e2))
      · rw [if_neg (by simpa using hn)] at hR
        have e12 := e1.trans e2
        obtain ⟨q, hq, hr1⟩ := r_ix (K := K) (ta := tFld K (tFld K (tVar 0) "field") "best") (tb := tFld K (tVar 0) "state") (σ := L2.start ["self", "value", "way"] [.ref a, .int (wv : Int)]) (ev_fld (ev_fld (ev_var rfl) (e12 _ _ ha) T.cC T.nFieldC fC_field) (e12 _ _ hL.o) T.cF T.nBest fF_best) (e12 _ _ hL.b) (hL.q.ex e12) (ev_fld (ev_var rfl) (e12 _ _ ha) T.cC T.nState fC_state) (NM.bsAll_get hs)
        refine q_asg (i_ix hr1 hq (ev_var rfl) (NM.bestRow_get hw)) fun H3 e3 => ?_
        cases hg : Vbenaf.goTo fl s wv with
        | none =>
          rw [hg] at hR
          exact q_when (b := true) (et_test (ev_is (ev_op (ev_var rfl) ev_c (rv_eq rfl)) (by simp [NM.vI]))) (fun _ H4 e4 => raise_R x_WithoutWay (Ref.mono hR (e12.trans (e3.trans e4)))) (fun h => by cases h)
        | some t =>
          rw [hg] at hR
          refine q_when (b := false) (et_test (ev_is (ev_op (ev_var rfl) ev_c (rv_eq rfl)) (by simp [NM.vI]))) (fun h => by cases h) (fun _ H4 e4 => ?_)
          have e14 := e12.trans (e3.trans e4)
          refine q_fld (ev_var rfl) (ev_var rfl) (e14 _ _ ha) T.cC T.nState (by show 3 < 1000; decide) fun H5 e5 => ?_
          have ep : putF ("state" : Str) (V.int (vI (some t))) (fC f s n) = fC f t n := fC_putS
          rw [ep]
          have b5 : ExB a H (upd H5 a (.ins CC dx (fC f t n))) := (ExB.of (e14.trans e5)).trans (ExB.upd _ _ _)
          have a5 : (upd H5 a (.ins CC dx (fC f t n))) a = some (.ins CC dx (fC f t n)) := upd_same
          generalize upd H5 a (.ins CC dx (fC f t n)) = G at a5 b5 ⊢
          refine ⟨.ref a, rfl, a, CC, dx, _, _, rfl, a5, T.cC, T.nChanges, fC_changes, _, _, rfl, rfl, dx, _, a5, Nat.le_of_ble_eq_true rfl, ?_⟩
          have ep2 : putF ("changes" : Str) (V.int ((n : Int) + 1)) (fC f t n) = fC f t (n + 1) := fC_putC (m := n + 1)
          rw [ep2]
          exact hR _ (b5.trans (ExB.upd _ _ _)) upd_same
-- def notch(self, hole):
--     if self.state >> hole & 1 == 1:
--         raise HoleNotched()
--     self.state += 1 << hole
-- slots 0:self 1:hole
abbrev sCard_notch : Stmt := inClass (top 101) 2
theorem scCard_notch : FnScope ["self", "hole"] ["self", "hole"] (defScope sCard_notch) := ⟨rfl, rfl, rfl, by decide +kernel, rfl, by decide +kernel, by decide +kernel⟩
def spC_notch (CC CHN : Addr) : Sp := fun vs H Q E => ∃ (a dx f : Addr) (s n h : Nat), vs = [.ref a, .int (h : Int)] ∧ H a = some (.ins CC dx (fC f s n)) ∧ h ≤ 1000 ∧
  if Vbenaf.bit s h = true then Ref CHN (-6) H E
  else ∀ H', ExB a H H' → H' a = some (.ins CC dx (fC f (s + 2 ^ h) n)) → Q .non H'
theorem okC_notch {f : Addr} {fd : FuncData} (F : Fun K "notch" "Card.notch" sCard_notch f fd) (T : TxtD K mg CD CC CF) (x_HoleNotched : Er P w K mg base 2 "HoleNotched" CHN (spE K (-6))) : FnOk P w K mg base (L2.CX P w) 4 f fd ["self", "hole"] (spC_notch CC CHN) := by
  refine F.okX scCard_notch (fun vs H Q E h => ?_) (fun cdv A outer s H vs Q E hr h => ?_)
  · obtain ⟨a, dx, f, s, n, h, rfl, _⟩ := h
    rfl
  · obtain ⟨a, dx, f, s, n, h, rfl, ha, h1000, hR⟩ := h
    refine ⟨_, (pss_cons (ps_if (pt_cmpR op_eq (pe_op op_and (pe_op op_shr (pfld K (pv 0)) (pv 1)) pe_int) pe_int (nomark _))
        (pss_one (psr0 x_HoleNotched (takes_of rfl rfl rfl rfl) hr (by decide) (by rfl)))
        pss_nil)
      (pss_one (psfldaug K (pv 0) (pe_op op_shl pe_int (pv 1)) in_add))), ?_⟩
    refine q_when (b := Vbenaf.bit s h) (et_test (ev_is (ev_op (ev_op (ev_op (ev_fld (ev_var rfl) ha T.cC T.nState fC_state) (ev_var rfl) (rv_I (show (0 : Int) ≤ (h : Int) by omega))) ev_c rv_I0) ev_c (rv_eq rfl)) (bl_bit s h))) (fun hc H1 e1 => ?_) (fun hc H1 e1 => ?_)
    · rw [if_pos hc] at hR
      exact raise_R x_HoleNotched (hR.mono e1)
    · rw [if_neg (by rw [hc]; decide)] at hR
      refine ⟨.ref a, rfl, a, CC, dx, _, _, rfl, e1 _ _ ha, T.cC, T.nState, fC_state, .int (h : Int), rfl, 1, (h : Int), rfl, rfl, ⟨by omega, by omega, by decide⟩, _, _, rfl, rfl, dx, _, e1 _ _ ha, Nat.le_of_ble_eq_true rfl, ?_⟩
      have ep : putF ("state" : Str) (V.int ((s : Int) + 1 * 2 ^ ((h : Int)).toNat)) (fC f s n) = fC f (s + 2 ^ h) n := by
        have e : (s : Int) + 1 * 2 ^ ((h : Int)).toNat = ((s + 2 ^ h : Nat) : Int) := by
          rw [Int.toNat_natCast, Int.one_mul]
          push_cast
          rfl
        rw [e]
        exact fC_putS
      rw [ep]
      exact hR _ ((ExB.of e1).trans (ExB.upd _ _ _)) upd_same
theorem fD_putF {f f0 c : Addr} : putF ("field" : Str) (.ref f) (fD f0 c) = fD f c := if_pos rfl
theorem fD_putC {f c c0 : Addr} : putF ("card" : Str) (.ref c) (fD f c0) = fD f c := (if_neg (by decide +kernel)).trans (congrArg _ (if_pos rfl))
theorem s_fldN {D : Ends} {tv : TE} {σ : L2.St} {H : Hp} {a C dx : Addr} {fs : List (Str × V)} {f : Str} {Pn : Addr → Hp → Prop} {i : Nat} (ho : σ[i]? = some (some (.ref a))) (hv : EvN tv σ H Pn) (ha : H a = some (.ins C dx fs)) (c : Cls K C) (n : NoAttr K C f) (l : fs.length < 1000)
    (k : ∀ p H1, H p = none → Ex H H1 → Pn p H1 → D.nx σ (upd H1 a (.ins C dx (putF f (.ref p) fs)))) : sFld K (tVar i) tv f D σ H :=
  hv H (Ex.refl _) _ fun p H1 np e1 hp => ⟨.ref a, ho, a, C, dx, fs, rfl, e1 _ _ ha, c, n, l, k p H1 np e1 hp⟩
theorem en_card {σ : L2.St} {H : Hp} {ta : TE} {f : Addr} (h : Ev ta σ H (.ref f)) : EvN (tMake CC (spC_init CC) [] E0 (tCons ta tNil)) σ H (fun p H' => ∃ dc, H' p = some (.ins CC dc (fC f 0 0))) := fun H1 e1 Q k =>
  h H1 e1 _ fun H2 e2 x dx nx nd ne => ⟨x, dx, f, rfl, upd_same, fun H' e ha => ⟨rfl, k x H' (fresh_back e2 nx) (e2.trans (ex_make nx nd e)) ⟨dx, ha⟩⟩⟩
theorem en_first {σ : L2.St} {H : Hp} : EvN (tCall (sp_first_field CF) [] E0 tNil) σ H (fun p H' => FldW CF (lessL H H') p f0 (NM.rkAll f0) (NM.bsAll f0)) := fun H1 e1 Q k =>
  ⟨rfl, fun q H' nq e hF => k q H' nq e (hF.ex (lessL_old e1))⟩
theorem lessL_B {H G G' : Hp} {a : Addr} (e : ExB a G G') : ExB a (lessL H G) (lessL H G') := fun b o n h => by
  obtain ⟨n1, g⟩ := lessL_get h
  rw [lessL_at n1]
  exact e b o n g
/-- a field in the heap, something else changed -/
theorem Rows.exB {H G : Hp} {p Cp dp : Addr} {fs : List (Str × V)} (hp : H p = some (.ins Cp dp fs)) (e : ExB p H G) : ∀ {as : List Addr} {ls : List (List Int)}, Rows H as ls → Rows G as ls
  | [], [], _ => trivial
  | _ :: _, _ :: _, h => ⟨e _ _ (ne_of h.1 hp (by intro z; cases z)) h.1, Rows.exB hp e h.2⟩
theorem FldL.exB {C : Addr} {H G : Hp} {a p Cp dp : Addr} {fs : List (Str × V)} {A : FAd} {f : Fld} {rk : List Int} {bs : List (List Int)} (h : FldL C H a A f rk bs) (hp : H p = some (.ins Cp dp fs)) (n : a ≠ p) (e : ExB p H G) : FldL C G a A f rk bs :=
  ⟨e _ _ n h.o, e _ _ (ne_of h.n hp (by intro z; cases z)) h.n, e _ _ (ne_of h.l hp (by intro z; cases z)) h.l, Tups.exB hp e h.p, e _ _ (ne_of h.t hp (by intro z; cases z)) h.t, e _ _ (ne_of h.a hp (by intro z; cases z)) h.a, Rows.exB hp e h.w, e _ _ (ne_of h.r hp (by intro z; cases z)) h.r, e _ _ (ne_of h.b hp (by intro z; cases z)) h.b, Rows.exB hp e h.q⟩
theorem FldW.exB {C : Addr} {H G : Hp} {a p Cp dp : Addr} {fs : List (Str × V)} {f : Fld} {rk : List Int} {bs : List (List Int)} (h : FldW C H a f rk bs) (hp : H p = some (.ins Cp dp fs)) (n : a ≠ p) (e : ExB p H G) : FldW C G a f rk bs := by
  obtain ⟨A, h⟩ := h
  exact ⟨A, h.exB hp n e⟩
-- def renew(self):
--     self.card = Card(self.field)
-- slots 0:self
abbrev sDesk_renew : Stmt := inClass (top 102) 2
theorem scDesk_renew : FnScope ["self"] ["self"] (defScope sDesk_renew) := ⟨rfl, rfl, rfl, by decide +kernel, rfl, by decide +kernel, by decide +kernel⟩
def spD_renew (CD CC : Addr) : Sp := fun vs H Q _ => ∃ (a dx f c0 : Addr), vs = [.ref a] ∧ H a = some (.ins CD dx (fD f c0)) ∧ ∀ c dc H', H c = none → ExB a H H' → H' a = some (.ins CD dx (fD f c)) → H' c = some (.ins CC dc (fC f 0 0)) → Q .non H'
theorem okD_renew {f : Addr} {fd : FuncData} (F : Fun K "renew" "Desk.renew" sDesk_renew f fd) (T : TxtD K mg CD CC CF) (k_Card : Mak P w K mg base CX0 1 "Card" CC (spC_init CC)) : FnOk P w K mg base CX0 3 f fd ["self"] (spD_renew CD CC) := by
  refine F.ok scDesk_renew (fun vs H Q E h => ?_) (fun cdv A outer s H vs Q E hr h => ?_)
  · obtain ⟨a, dx, f, c0, rfl, _⟩ := h
    rfl
  · obtain ⟨a, dx, fl, c0, rfl, ha, ret⟩ := h
    refine ⟨_, (pss_one (psfld K (pv 0) (pmk k_Card hr (by decide) (by rfl) (pa_cons (pfld K (pv 0)) pa_nil)))), ?_⟩
    refine s_fldN rfl (en_card (ev_fld (ev_var rfl) ha T.cD T.nField fD_field)) ha T.cD T.nCard (by show 2 < 1000; decide) fun c H2 nc e2 hc => ?_
    obtain ⟨dc, hc⟩ := hc
    rw [fD_putC]
    have nca : c ≠ a := fun z => by rw [z, ha] at nc; cases nc
    exact ret c dc _ nc ((ExB.of e2).trans (ExB.upd _ _ _)) upd_same (by rw [upd_ne nca]; exact hc)
-- def lay(self, field):
--     self.field = field
--     self.renew()
-- slots 0:self 1:field
abbrev sDesk_lay : Stmt := inClass (top 102) 1
theorem scDesk_lay : FnScope ["self", "field"] ["self", "field"] (defScope sDesk_lay) := ⟨rfl, rfl, rfl, by decide +kernel, rfl, by decide +kernel, by decide +kernel⟩
def spD_lay (CD CC : Addr) : Sp := fun vs H Q _ => ∃ (a dx f f0 c0 : Addr), vs = [.ref a, .ref f] ∧ H a = some (.ins CD dx (fD f0 c0)) ∧ ∀ c dc H', H c = none → ExB a H H' → H' a = some (.ins CD dx (fD f c)) → H' c = some (.ins CC dc (fC f 0 0)) → Q .non H'
theorem okD_lay {f : Addr} {fd : FuncData} (F : Fun K "lay" "Desk.lay" sDesk_lay f fd) (T : TxtD K mg CD CC CF) (m_Desk_renew : Met P w K mg base CX0 3 CD "renew" (spD_renew CD CC)) : FnOk P w K mg base CX0 4 f fd ["self", "field"] (spD_lay CD CC) := by
  refine F.ok scDesk_lay (fun vs H Q E h => ?_) (fun cdv A outer s H vs Q E hr h => ?_)
  · obtain ⟨a, dx, f, f0, c0, rfl, _⟩ := h
    rfl
  · obtain ⟨a, dx, fl, f0, c0, rfl, ha, ret⟩ := h
    refine ⟨_, (pss_cons (psfld K (pv 0) (pv 1))
      (pss_one (ps_expr (pmt0 m_Desk_renew hr (by decide) (pv 0))))), ?_⟩
    refine q_fld (ev_var rfl) (ev_var rfl) ha T.cD T.nField (by show 2 < 1000; decide) fun H1 e1 => ?_
    rw [fD_putF]
    have b1 : ExB a H (upd H1 a (.ins CD dx (fD fl c0))) := (ExB.of e1).trans (ExB.upd _ _ _)
    have a1 : (upd H1 a (.ins CD dx (fD fl c0))) a = some (.ins CD dx (fD fl c0)) := upd_same
    generalize upd H1 a (.ins CD dx (fD fl c0)) = G at a1 b1 ⊢
    exact ⟨_, rfl, a, dx, _, rfl, a1, fD_renew, a, dx, fl, c0, rfl, a1, fun c dc H' nc e2 h1 h2 => ret c dc H' (b1.none a1 nc) (b1.trans e2) h1 h2⟩
-- def __init__(self):
--     self.field = first_field()
--     self.card = Card(self.field)
-- slots 0:self
abbrev sDesk_init : Stmt := inClass (top 102) 0
theorem scDesk_init : FnScope ["self"] ["self"] (defScope sDesk_init) := ⟨rfl, rfl, rfl, by decide +kernel, rfl, by decide +kernel, by decide +kernel⟩
def spD_init (CD CC CF : Addr) : Sp := fun vs H Q _ => ∃ (a dx : Addr), vs = [.ref a] ∧ H a = some (.ins CD dx []) ∧ ∀ c f dc H', ExB a H H' → H' a = some (.ins CD dx (fD f c)) → FldW CF (lessL H H') f f0 (NM.rkAll f0) (NM.bsAll f0) → H' c = some (.ins CC dc (fC f 0 0)) → Q .non H'
theorem okD_init {f : Addr} {fd : FuncData} (F : Fun K "__init__" "Desk.__init__" sDesk_init f fd) (T : TxtD K mg CD CC CF) (k_Card : Mak P w K mg base CX0 1 "Card" CC (spC_init CC)) (c_first_field : Cal P w K mg base CX0 7 "first_field" (sp_first_field CF)) : FnOk P w K mg base CX0 8 f fd ["self"] (spD_init CD CC CF) := by
  refine F.ok scDesk_init (fun vs H Q E h => ?_) (fun cdv A outer s H vs Q E hr h => ?_)
  · obtain ⟨a, dx, rfl, _⟩ := h
    rfl
  · obtain ⟨a, dx, rfl, ha, ret⟩ := h
    refine ⟨_, (pss_cons (psfld K (pv 0) (pc0 c_first_field hr (by decide) (by rfl)))
      (pss_one (psfld K (pv 0) (pmk k_Card hr (by decide) (by rfl) (pa_cons (pfld K (pv 0)) pa_nil))))), ?_⟩
    refine q_addN [] rfl en_first ha T.cD T.nField rfl (by decide +kernel) (by decide) fun f H1 nf e1 hF a1 b1 => ?_
    have nfa : f ≠ a := fun z => by rw [z, ha] at nf; cases nf
    have hal : ∀ xs, H a ≠ some (.lst xs) := fun xs z => by rw [ha] at z; cases z
    have hF1 : FldW CF (lessL H (upd H1 a (.ins CD dx ([] ++ [(("field" : Str), V.ref f)])))) f f0 (NM.rkAll f0) (NM.bsAll f0) := hF.exB ((lessL_at hal).trans (e1 _ _ ha)) nfa (lessL_B (ExB.upd _ _ _))
    generalize upd H1 a (.ins CD dx ([] ++ [(("field" : Str), V.ref f)])) = G at a1 b1 hF1 ⊢
    refine s_fldN rfl (en_card (ev_fld (ev_var rfl) a1 T.cD T.nField lk_here)) a1 T.cD T.nCard (by show 1 < 1000; decide) fun c H2 nc e2 hc => ?_
    obtain ⟨dc, hc⟩ := hc
    rw [putF_fresh (by show ([("field" : Str)]).all (fun g => !decide (g = ("card" : Str))) = true; decide +kernel)]
    have nca : c ≠ a := fun z => by rw [z, a1] at nc; cases nc
    exact ret c f dc _ (b1.trans ((ExB.of e2).trans (ExB.upd _ _ _))) upd_same ((hF1.ex (lessL_ex e2)).exB ((lessL_at hal).trans (e2 _ _ a1)) nfa (lessL_B (ExB.upd _ _ _))) (by rw [upd_ne nca]; exact hc)
end
end N
set_option Elab.async false
set_option linter.all false
set_option maxRecDepth 100000
set_option maxHeartbeats 4000000
namespace N
open PySem PySem.Spec PyProof.Rows L2 Evl
theorem sizeM : (16000000 : Nat) ≤ sizeLine := by rw [sizeLine_eq]; decide
section
variable {K : PySem.W.Frag} {σ : L2.St} {H : Hp} {ta te : TE} {v : V} {D : Ends} {tz : TS}
/-- appended, also to a long list -/
theorem s_appM {l : Addr} {xs : List V} (hl : H l = some (.lst xs)) (ha : Ev ta σ H (.ref l)) (h : Ev te σ H v) (hz : xs.length < 16000000) (k : ∀ H1, Ex H H1 → D.nx σ (upd H1 l (.lst (xs ++ [v])))) : tDrop (tBM K "list" rAppend ta (tCons te tNil)) D σ H :=
  ha H (Ex.refl H) _ fun H1 e1 => ⟨.inl ⟨rfl, xs, sq_of (e1 l _ hl)⟩, h H1 e1 _ fun H2 e2 => ⟨l, xs, v, rfl, rfl, (e1.trans e2) l _ hl, Nat.lt_of_lt_of_le hz sizeM, k H2 (e1.trans e2)⟩⟩
theorem q_appM {l : Addr} {xs : List V} (hl : H l = some (.lst xs)) (ha : Ev ta σ H (.ref l)) (h : Ev te σ H v) (hz : xs.length < 16000000) (k : ∀ H1, Ex H H1 → tz D σ (upd H1 l (.lst (xs ++ [v])))) : tSeq (tDrop (tBM K "list" rAppend ta (tCons te tNil))) tz D σ H := s_appM (D := { D with nx := tz D }) hl ha h hz k
theorem s_extM {l b : Addr} {xs ys : List V} (hl : H l = some (.lst xs)) (hb : H b = some (.lst ys)) (ha : Ev ta σ H (.ref l)) (h : Ev te σ H (.ref b)) (hz : xs.length + ys.length ≤ 16000000) (k : ∀ H1, Ex H H1 → D.nx σ (upd H1 l (.lst (xs ++ ys)))) : tDrop (tBM K "list" rExtend ta (tCons te tNil)) D σ H :=
  ha H (Ex.refl H) _ fun H1 e1 => ⟨.inl ⟨rfl, xs, sq_of (e1 l _ hl)⟩, h H1 e1 _ fun H2 e2 => ⟨l, b, xs, ys, rfl, rfl, (e1.trans e2) l _ hl, (e1.trans e2) b _ hb, Nat.le_trans hz sizeM, k H2 (e1.trans e2)⟩⟩
end
end N
set_option Elab.async false
set_option linter.all false
set_option maxRecDepth 100000
set_option maxHeartbeats 4000000
namespace N
open PySem PySem.Spec PyProof.Rows L2 Evl
open NM (Thing want thingsOf Fits vI FOk)
section
variable {P : Program} {w : World} {K : PySem.W.Frag} {mg : Str → Option Value} {base : Heap} {CW CFa CF CD CC : Addr} {g : Int → List (List Nat)} {Ask : List (List Int) → Prop}
/-- one call is answered: c's things are handed in; nl: the list of numbers, which nobody knows -/
def sp_answer (CD CC CF : Addr) (g : Int → List (List Nat)) (Ask : List (List Int) → Prop) : Sp := fun vs H Q _ => ∃ (a gl nl : Addr) (st : Vbenaf.State) (c : List (List Int)) (qs : List Addr) (ys : List V), vs = [.ref a, .int (thingsOf g c).1, .ref gl] ∧ H nl = some (.lst ys) ∧ DeskAt CD CC CF (del H nl) a st ∧ H gl = some (.lst (vrefs qs)) ∧ Giv H qs (thingsOf g c).2 ∧ Ask c ∧
  ∀ q H', H q = none → ExT H H' → DeskAt CD CC CF (del H' nl) a (Vbenaf.step st c).1 → H' q = some (.lst (vints (Vbenaf.step st c).2)) → Q (.ref q) H'
theorem DeskAt.ex' {H H' : Hp} {a : Addr} {st : Vbenaf.State} (h : DeskAt CD CC CF H a st) (e : Ex H H') : DeskAt CD CC CF H' a st := by
  obtain ⟨dx, f, c, h1, h2, dc, h3⟩ := h.ex
  exact ⟨⟨dx, f, c, e _ _ h1, h2.ex e, dc, e _ _ h3⟩, h.ok, h.nw⟩
theorem ThAt.exT {H H' : Hp} (e : ExT H H') {v : V} : ∀ {t : Thing}, ThAt H v t → ThAt H' v t
  | .num _, h => h
  | .row _, ⟨p, h1, h2⟩ => ⟨p, h1, e.1 _ _ h2⟩
theorem Giv.exT {H H' : Hp} (e : ExT H H') : ∀ {qs : List Addr} {ts : List (List Nat × Thing)}, Giv H qs ts → Giv H' qs ts
  | [], [], _ => trivial
  | _ :: _, _ :: _, ⟨⟨v, h1, h2⟩, r⟩ => ⟨⟨v, e.2 _ _ h1, h2.exT e⟩, Giv.exT e r⟩
theorem ExT.upd {G H : Hp} {l : Addr} {o : HO} (e : ExT G H) (n : G l = none) : ExT G (upd H l o) :=
  ⟨fun b xs h => by rw [upd_ne (ne_of_none h n)]; exact e.1 _ _ h, fun b xs h => by rw [upd_ne (ne_of_none h n)]; exact e.2 _ _ h⟩
theorem f0_ok' : FOk Vbenaf.start.field := f0_ok
theorem en_desk {σ : L2.St} {H : Hp} : EvN (tMake CD (spD_init CD CC CF) [] E0 tNil) σ H (fun p H' => DeskAt CD CC CF H' p Vbenaf.start) := fun H1 e1 Q k x dx nx nd ne =>
  ⟨x, dx, rfl, upd_same, fun c f dc H' e h1 h2 h3 => ⟨rfl, k x H' nx (ex_make nx nd e) ⟨⟨dx, f, c, h1, h2.ex (lessL_sub _ _), dc, h3⟩, f0_ok', by decide⟩⟩⟩
theorem q_asgN {σ : L2.St} {H : Hp} {D : Ends} {tz : TS} {te : TE} {i : Nat} {Pn : Addr → Hp → Prop} (h : EvN te σ H Pn) (k : ∀ p H1, H p = none → Ex H H1 → Pn p H1 → tz D (σ.set i (some (.ref p))) H1) : tSeq (tAsg te (gName i)) tz D σ H := h H (Ex.refl _) _ k
theorem sp_nil {sp : Sp} {vs : List V} {H : Hp} {Q : VK} {E : XK} (h : sp vs H Q E) : sp (vs ++ []) H Q E := by
  rw [List.append_nil]
  exact h
/-- a loop over the list that a call hands back -/
theorem q_forC {sp : Sp} {ta : TA} {g : TG} {tu tz : TS} {D : Ends} {σ : L2.St} {H : Hp} {vs : List V} (ha : EvA ta σ H vs)
    (h : ∀ H1, Ex H H1 → ∀ R : VK, (∀ p H2 xs, H2 p = some (.lst xs) → (∃ Pv : Nat → L2.St → Hp → Prop, Pv 0 σ H2 ∧ (∀ i σ' H', i ≤ xs.length → Pv i σ' H' → SqL K H' p xs) ∧
      (∀ i x σ' H', xs[i]? = some x → Pv i σ' H' → g x σ' H' fun σ2 H3 => tu { D with nx := Pv (i + 1), ct := Pv (i + 1), bk := tz D } σ2 H3) ∧ (∀ σ' H', Pv xs.length σ' H' → tz D σ' H')) → R (.ref p) H2) → sp vs H1 R E0) :
    tSeq (tFor (iList K (tCall sp [] E0 ta)) g tu) tz D σ H :=
  ha H (Ex.refl _) _ fun H1 e1 => sp_nil (h H1 e1 _ fun p H2 xs hp hP => ⟨p, rfl, ⟨xs, sq_of hp⟩, by
    obtain ⟨Pv, p0, p1, p2, p3⟩ := hP
    exact for_list (D := { D with nx := tz D }) Pv p0 p1 p2 p3⟩)
/-- a call's value is named -/
theorem q_asgC {sp : Sp} {ta : TA} {tz : TS} {D : Ends} {i : Nat} {σ : L2.St} {H : Hp} {vs : List V} (ha : EvA ta σ H vs) (h : ∀ H1, Ex H H1 → sp vs H1 (fun v H2 => tz D (σ.set i (some v)) H2) E0) : tSeq (tAsg (tCall sp [] E0 ta) (gName i)) tz D σ H :=
  ha H (Ex.refl _) _ fun H1 e1 => sp_nil (h H1 e1)
structure TxtA (mg : Str → Option Value) : Prop where
  len : mg "len" = none
-- def answers(calls):
--     desk = Desk()
--     numbers = []
--     for number, given in parted(calls):
--         answered = answer(desk, number, given)
--         numbers.append(len(answered))
--         numbers.extend(answered)
--     return numbers
-- slots 0:calls 1:desk 2:numbers 3:number 4:given 5:answered
abbrev sanswers : Stmt := top 104
theorem scanswers : FnScope ["calls", "desk", "numbers", "number", "given", "answered"] ["calls"] (defScope sanswers) := ⟨rfl, rfl, rfl, by decide +kernel, rfl, by decide +kernel, by decide +kernel⟩
def sp_answers (K : PySem.W.Frag) (Ask : List (List Int) → Prop) : Sp := fun vs H Q _ => ∃ (a : Addr) (l : List Int) (raw : List (List (List Int))), vs = [.ref a] ∧ SqL K H a (vints l) ∧ l.length ≤ 1000000 ∧ PyFlat.calls PyVbenaf.shape l.length l = some raw ∧ raw.length ≤ 1000 ∧ (∀ c ∈ raw, Ask c) ∧ (PyFlat.told (PyFlat.played Vbenaf.step Vbenaf.start raw)).length ≤ 10000000 ∧
  ∀ H' p, H' p = some (.lst (vints (PyFlat.told (PyFlat.played Vbenaf.step Vbenaf.start raw)))) → Q (.ref p) H'
theorem ok_answers {f : Addr} {fd : FuncData} (F : Fun K "answers" "answers" sanswers f fd) (T : TxtA mg) (k_Desk : Mak P w K mg base CX0 8 "Desk" CD (spD_init CD CC CF)) (c_parted : Cal P w K mg base CX0 1 "parted" (sp_parted K PyVbenaf.shape g)) (c_answer : Cal P w K mg base CX0 10 "answer" (sp_answer CD CC CF g Ask)) : FnOk P w K mg base CX0 11 f fd ["calls"] (sp_answers K Ask) := by
  refine F.ok scanswers (fun vs H Q E h => ?_) (fun cdv A outer s H vs Q E hr h => ?_)
  · obtain ⟨a, l, raw, rfl, _⟩ := h
    rfl
  · obtain ⟨a, l, raw, rfl, ha, hl, hc, h1000, hask, hbig, ret⟩ := h
    refine ⟨_, (pss_cons (ps_set (i := 1) scanswers.nd rfl (Or.inl rfl) (pmk0 k_Desk hr (by decide) (by rfl)))
      (pss_cons (ps_set (i := 2) scanswers.nd rfl (Or.inl rfl) (pe_lst pa_nil))
      (pss_cons (ps_for PassesOwn.never rfl (piList K (pc c_parted hr (by decide) (by rfl) (pa_cons (pv 0) pa_nil))) (pgTup K (by rfl) (pgs_cons (pg_name (i := 3) scanswers.nd rfl (Or.inl rfl)) (pgs_cons (pg_name (i := 4) scanswers.nd rfl (Or.inl rfl)) pgs_nil)))
        (pss_cons (ps_set (i := 5) scanswers.nd rfl (Or.inl rfl) (pc c_answer hr (by decide) (by rfl) (pa_cons (pv 1) (pa_cons (pv 3) (pa_cons (pv 4) pa_nil)))))
      (pss_cons (ps_expr (papp K (pv 2) (plen K T.len (pv 5))))
      (pss_one (ps_expr (pext K (pv 2) (pv 5)))))))
      (pss_one (ps_ret (pv 2)))))), ?_⟩
    refine q_asgN en_desk fun d H1 nd e1 hd => ?_
    refine q_asgL (el_lst ea_nil (by decide)) fun nl H2 nnl e2 hnl => ?_
    have hd2 : DeskAt CD CC CF (del H2 nl) d Vbenaf.start := hd.ex' (by
      have z : del H1 nl = H1 := del_none nnl
      rw [← z]
      exact Ex.del e2 nl)
    have e02 := e1.trans e2
    show tSeq (tFor _ _ _) _ _ [some (.ref a), some (.ref d), some (.ref nl), none, none, none] _
    refine q_forC (ea_one (ev_var rfl)) fun H3 e3 R kR => ⟨a, l, raw, rfl, ex_l (e02.trans e3) ha, hl, hc, h1000, fun pp qs H4 npp e4 hpp hcl => kR pp H4 _ hpp ?_⟩
    have hnl4 := e4 _ _ (e3 _ _ hnl)
    have hd4 : DeskAt CD CC CF (del H4 nl) d Vbenaf.start := hd2.ex' (Ex.del (e3.trans e4) nl)
    have nN : newH H3 H4 nl = none := by
      unfold newH
      rw [e3 _ _ hnl]
    have hppN : newH H3 H4 pp = some (.lst (vrefs qs)) := (newH_at npp).trans hpp
    refine ⟨fun i σ' H' => ∃ (st : Vbenaf.State) (acc : List Int) (v3 v4 v5 : Option V), σ' = [some (.ref a), some (.ref d), some (.ref nl), v3, v4, v5] ∧ DeskAt CD CC CF (del H' nl) d st ∧ H' nl = some (.lst (vints acc)) ∧ ExT (newH H3 H4) H' ∧
        PyFlat.told (PyFlat.played Vbenaf.step Vbenaf.start raw) = acc ++ PyFlat.told (PyFlat.played Vbenaf.step st (raw.drop i)),
      ⟨Vbenaf.start, [], none, none, none, rfl, hd4, hnl4, ⟨fun b xs h => newH_sub _ _ _ _ h, fun b xs h => newH_sub _ _ _ _ h⟩, rfl⟩, (fun i σ' H' _ hP => by
        obtain ⟨st, acc, v3, v4, v5, rfl, h1, h2, h3, h4⟩ := hP
        exact sq_of (h3.1 _ _ hppN)), ?_, ?_⟩
    · rintro i x σ' H' hi ⟨st, acc, v3, v4, v5, rfl, hD, hN, hE, hT⟩
      rw [vrefs, List.getElem?_map] at hi
      cases hq : qs[i]? with
      | none => rw [hq] at hi; cases hi
      | some q =>
        rw [hq] at hi
        obtain rfl : V.ref q = x := Option.some.inj hi
        obtain ⟨c', hc', gl, qg, hqt, hgl, hgv⟩ := hcl.at hq
        rw [List.getElem?_map] at hc'
        cases hraw : raw[i]? with
        | none => rw [hraw] at hc'; cases hc'
        | some c =>
          rw [hraw] at hc'
          obtain rfl : thingsOf g c = c' := Option.some.inj hc'
          have hil := (List.getElem?_eq_some_iff.mp hraw).1
          have hdr : raw.drop i = c :: raw.drop (i + 1) := by
            rw [List.drop_eq_getElem_cons hil]
            congr 1
            exact (List.getElem?_eq_some_iff.mp hraw).2
          have hstep : PyFlat.told (PyFlat.played Vbenaf.step st (raw.drop i)) = ((Vbenaf.step st c).2.length : Int) :: (Vbenaf.step st c).2 ++ PyFlat.told (PyFlat.played Vbenaf.step (Vbenaf.step st c).1 (raw.drop (i + 1))) := by
            rw [hdr]
            rfl
          rw [hstep] at hT
          have hlenT := congrArg List.length hT
          rw [List.length_append, List.length_append, List.length_cons] at hlenT
          refine ⟨q, _, rfl, st_of (hE.2 _ _ hqt), rfl, _, _, rfl, _, _, rfl, rfl, ?_⟩
          show tSeq (tAsg (tCall (sp_answer CD CC CF g Ask) [] E0 (tCons (tVar 1) (tCons (tVar 3) (tCons (tVar 4) tNil)))) (gName 5)) _ _ [some (.ref a), some (.ref d), some (.ref nl), some (.int (thingsOf g c).1), some (.ref gl), v5] _
          refine q_asgC (ea_cons (ev_var rfl) (ea_two (ev_var rfl) (ev_var rfl))) fun H5 e5 => ⟨d, gl, nl, st, c, qg, _, rfl, e5 _ _ hN, hD.ex' (Ex.del e5 nl), e5 _ _ (hE.1 _ _ hgl), (hgv.exT hE).ex e5, hask c (List.mem_of_getElem? hraw), fun z H6 nz e6 hD6 hz => ?_⟩
          have hN6 := e6.1 _ _ (e5 _ _ hN)
          have hE6 : ExT (newH H3 H4) H6 := (hE.trans (ExT.of e5)).trans e6
          refine q_appM (v := .int ((Vbenaf.step st c).2.length : Int)) hN6 (ev_var rfl) (ev_lenE (ev_var rfl) hz (by rw [vints_len])) (by rw [vints_len]; omega) fun H7 e7 => ?_
          have nzl : z ≠ nl := fun y => by rw [y, e5 _ _ hN] at nz; cases nz
          have hz7 : (upd H7 nl (.lst (vints acc ++ [.int ((Vbenaf.step st c).2.length : Int)]))) z = some (.lst (vints (Vbenaf.step st c).2)) := by rw [upd_ne nzl]; exact e7 _ _ hz
          refine s_extM upd_same hz7 (ev_var rfl) (ev_var rfl) (by rw [List.length_append, vints_len, vints_len]; simp; omega) fun H8 e8 => ?_
          have hD8 : DeskAt CD CC CF (del H8 nl) d (Vbenaf.step st c).1 := by
            refine hD6.ex' ?_
            have y := Ex.del e8 nl
            rw [del_upd] at y
            exact (Ex.del e7 nl).trans y
          have hE8 : ExT (newH H3 H4) H8 := ((hE6.trans (ExT.of e7)).upd nN).trans (ExT.of e8)
          refine ⟨(Vbenaf.step st c).1, acc ++ (((Vbenaf.step st c).2.length : Int) :: (Vbenaf.step st c).2), _, _, _, rfl, by rw [del_upd]; exact hD8, ?_, hE8.upd nN, by rw [hT, List.append_assoc]⟩
          rw [upd_same]
          simp [vints]
    · rintro σ' H' ⟨st, acc, v3, v4, v5, rfl, hD, hN, hE, hT⟩
      have hlq := hcl.len
      rw [List.length_map] at hlq
      rw [vrefs_len, hlq, List.drop_length] at hT
      replace hT : PyFlat.told (PyFlat.played Vbenaf.step Vbenaf.start raw) = acc := by rw [hT]; exact List.append_nil _
      refine s_ret (ev_var rfl) fun H9 e9 => ret H9 nl ?_
      rw [hT]
      exact e9 _ _ hN
end
end N
set_option Elab.async false
set_option linter.all false
set_option maxRecDepth 100000
set_option maxHeartbeats 4000000
namespace N
open PySem PySem.Spec PyProof.Rows L2 Evl
open NM (Thing want thingsOf Fits vI FOk)
/-- a def that a local name may hold; it may raise -/
structure Doer (P : Program) (w : World) (K : PySem.W.Frag) (mg : Str → Option Value) (base : Heap) (k : Nat) (f : Addr) (sp : Sp) : Prop where
  ex : ∃ (fd : FuncData) (ps : List Str), FnOk P w K mg base (L2.CX P w) k f fd ps sp ∧ PySem.W.keepIn K (.ref f) = true ∧ Binds K fd ps []
def tCallD (i : Nat) (Sd : Addr → Sp → Prop) (W : WX) (t : TA) : TE := fun σ H Q => ∃ f sp, σ[i]? = some (some (.ref f)) ∧ Sd f sp ∧ t σ H fun vs H1 => sp vs H1 Q (WE W σ)
section
variable {X : Cx} {k i : Nat} {x : Str} {e : Expr} {es : List Expr} {t : TA} {p pos : Pos} {W : WX} {Sd : Addr → Sp → Prop}
theorem pe_callD (A : ∀ f sp, Sd f sp → Doer X.prog X.w X.K X.mg X.base k f sp) (hr : Room k X.A) (hN : X.N[i]? = some x) (hv : Vis X.env.scope x) (tk : Takes X W) (ha : PA X (e :: es) t)
    (hdb : (x == ("__debug__" : Str)) = false := by decide) (hcd : (x == ("__classdict__" : Str)) = false := by decide)
    (he : starEach (e :: es) X.env = (false, eval e X.env) :: starEach es X.env := by rfl) (hpl : (backTo pos (starEach es X.env)).any (·.1) = false := by rfl) : PE X (.Call (.Name x p) (e :: es) [] pos) (tCallD i Sd W t) := by
  refine ⟨fun pins s σ H Q I h => ?_⟩
  obtain ⟨f, sp, hs, hS, ht⟩ := h
  obtain ⟨fd, ps, F, hk, hb⟩ := (A f sp hS).ex
  refine wpAny_Call_Name_kw (thn ((pe_var (pos := p) hN hv hdb hcd).run pins s σ H (fun v H1 => v = .ref f ∧ H1 = H) I ⟨.ref f, hs, rfl, rfl⟩) fun u s1 hu => ?_)
  obtain ⟨v, H1, I1, r1, rfl, rfl⟩ := hu
  cases r1
  refine PySem.W.callWith_K (h₀ := X.base) I.ok.mod.kin hk (thn (ha.run pos pins s1 σ _ _ I1 ht) fun us s2 hv2 => ?_) he hpl
  obtain ⟨vs, H2, I2, r, q⟩ := hv2
  exact ⟨I2.kIn, run_fnS F hr hb (passAt tk σ) I2 r q⟩
/-- e.f of the exception at hand, of whichever class -/
def tXfA (K : PySem.W.Frag) (a : Addr) (cls : Value) (d : Option Addr) (f : Str) (te : TE) : TE := fun σ H Q => ∃ C, XfC K C ∧ PySem.W.findIn K (.ref C) f = some none ∧ tXf a cls d C f te σ H Q
theorem pe_xfA {a : Addr} {oe : Obj} {cls : Value} {d : Option Addr} {pn : List (Addr × Obj)} {e : Expr} {te : TE} {pos : Pos} {n : Str} (hz : Zc cls d oe) (hf : ∃ vs, oe.data = .fields vs) (he : PE (X.suite a ((a, oe) :: pn)) e te) (hb : attributeBase e n X.env (eval e X.env) = eval e X.env := by rfl) :
    PE (X.suite a ((a, oe) :: pn)) (.Attribute e n pos) (tXfA X.K a cls d n te) := by
  refine ⟨fun pins s σ H Q I h => ?_⟩
  obtain ⟨C, T, hno, h⟩ := h
  exact (pe_xf T hno hz hf he hb).run pins s σ H Q I h
end
/-! ### what is checked, what is done -/
abbrev CV := Thing ⊕ Fld
def chkAll (chk : Fld → List Nat → Thing → Except Int (Option Fld)) (f : Fld) : List (List Nat × Thing) → Except Int (List CV)
  | [] => .ok []
  | t :: ts => match chk f t.1 t.2 with
    | .error n => .error n
    | .ok o => match chkAll chk f ts with
      | .error n => .error n
      | .ok cs => .ok ((match o with | none => .inl t.2 | some x => .inr x) :: cs)
def CvAt (CF : Addr) (Hd H : Hp) (v : V) : CV → Prop
  | .inl t => ThAt H v t
  | .inr f => ∃ p, v = .ref p ∧ FldW CF Hd p f (NM.rkAll f) (NM.bsAll f) ∧ FOk f
def CvsAt (CF : Addr) (Hd H : Hp) : List V → List CV → Prop
  | [], [] => True
  | v :: vs, c :: cs => CvAt CF Hd H v c ∧ CvsAt CF Hd H vs cs
  | _, _ => False
theorem CvAt.ex {CF : Addr} {Hd Hd' H H' : Hp} {v : V} (e1 : Ex Hd Hd') (e2 : Ex H H') : ∀ {c : CV}, CvAt CF Hd H v c → CvAt CF Hd' H' v c
  | .inl _, h => ThAt.ex e2 h
  | .inr _, ⟨p, h1, h2, h3⟩ => ⟨p, h1, h2.ex e1, h3⟩
theorem CvsAt.ex {CF : Addr} {Hd Hd' H H' : Hp} (e1 : Ex Hd Hd') (e2 : Ex H H') : ∀ {vs : List V} {cs : List CV}, CvsAt CF Hd H vs cs → CvsAt CF Hd' H' vs cs
  | [], [], _ => trivial
  | _ :: _, _ :: _, h => ⟨h.1.ex e1 e2, CvsAt.ex e1 e2 h.2⟩
theorem CvsAt.snoc {CF : Addr} {Hd H : Hp} {v : V} {c : CV} (h1 : CvAt CF Hd H v c) : ∀ {vs : List V} {cs : List CV}, CvsAt CF Hd H vs cs → CvsAt CF Hd H (vs ++ [v]) (cs ++ [c])
  | [], [], _ => ⟨h1, trivial⟩
  | _ :: _, _ :: _, h => ⟨h.1, CvsAt.snoc h1 h.2⟩
/-- a refusal of whichever class, with its number -/
def RefA (K : PySem.W.Frag) (CR : Addr) (n : Int) (H : Hp) (E : XK) : Prop := ∀ C d fs H', XfC K C → PySem.W.findIn K (.ref C) "number" = some none → PySem.W.exmOne K (.ref C) (.ref CR) = some true → H d = none → Ex H H' → H' d = some (.xd fs) → fs.lookup ("number" : Str) = some (V.int n) → E (.ref C) (some d) H'
theorem RefA.mono {K : PySem.W.Frag} {CR : Addr} {n : Int} {H G : Hp} {E : XK} (h : RefA K CR n H E) (e : Ex H G) : RefA K CR n G E := fun C d fs H' h1 h2 h3 nd e' h4 h5 => h C d fs H' h1 h2 h3 (fresh_back e nd) (e.trans e') h4 h5
def sp_checked (K : PySem.W.Frag) (CF CR : Addr) (okT : List Nat → Thing → Prop) (chk : Fld → List Nat → Thing → Except Int (Option Fld)) : Sp := fun vs H Q E => ∃ (lf : Addr) (f : Fld) (rk : List Int) (bs : List (List Int)) (kd : List Nat) (t : Thing) (v : V), vs = [.ref lf, .str (S kd), v] ∧ FldW CF H lf f rk bs ∧ FOk f ∧ ThAt H v t ∧ okT kd t ∧
  match chk f kd t with
    | .ok none => ∀ H', Ex H H' → Q v H'
    | .ok (some x) => ∀ p H', H p = none → Ex H H' → FldW CF (lessL H H') p x (NM.rkAll x) (NM.bsAll x) → FOk x → Q (.ref p) H'
    | .error n => RefA K CR n H E
/-- a call is done; nl: the list that nobody knows -/
def sp_doer (K : PySem.W.Frag) (CD CC CF CR : Addr) (okC : Vbenaf.State → List CV → Prop) (dsp : Vbenaf.State → List CV → Except Int (Vbenaf.State × List Int)) : Sp := fun vs H Q E => ∃ (a l nl : Addr) (ys vs' : List V) (st : Vbenaf.State) (cs : List CV), vs = [.ref a, .ref l] ∧ H nl = some (.lst ys) ∧ DeskAt CD CC CF (del H nl) a st ∧ H l = some (.lst vs') ∧ CvsAt CF (del H nl) H vs' cs ∧ okC st cs ∧
  match dsp st cs with
    | .ok (st', ans) => ∀ q H', H q = none → ExT H H' → DeskAt CD CC CF (del H' nl) a st' → H' q = some (.lst (vints ans)) → Q (.ref q) H'
    | .error n => RefA K CR n H E
structure TxtW2 (K : PySem.W.Frag) (mg : Str → Option Value) (aD CR CD : Addr) : Prop where
  DOERS : mg "DOERS" = some (.ref aD)
  Refusal : mg "Refusal" = some (.ref CR)
  cD : Cls K CD
  nField : NoAttr K CD "field"
theorem less_del {H H' : Hp} {nl : Addr} {ys : List V} (h : H nl = some (.lst ys)) : Ex (lessL H H') (del H' nl) := fun b o hb => by
  obtain ⟨n, g⟩ := lessL_get hb
  have z : b ≠ nl := fun y => n ys (by rw [y]; exact h)
  rw [del_ne z]
  exact g
section
variable {P : Program} {w : World} {K : PySem.W.Frag} {CF CD CR : Addr} {chk : Fld → List Nat → Thing → Except Int (Option Fld)} {okT : List Nat → Thing → Prop}
/-- the things are checked, one after another -/
theorem go_checked {W : WX} {σ : L2.St} {H : Hp} {Q : VK} {a gl lf lc dx : Addr} {qs : List Addr} {ts : List (List Nat × Thing)} {f : Fld} {rk : List Int} {bs : List (List Int)} (cD : Cls K CD) (nF : NoAttr K CD "field") (ha : H a = some (.ins CD dx (fD lf lc))) (hF : FldW CF H lf f rk bs) (ok : FOk f)
    (hgl : H gl = some (.lst (vrefs qs))) (hgv : Giv H qs ts) (hT : ∀ t ∈ ts, okT t.1 t.2) (hz : ts.length ≤ 100000) (hs : ∃ p d, σ = [some (.ref a), p, some (.ref gl), d, none, none, none])
    (h : match chkAll chk f ts with
      | .ok cs => ∀ D H' vs', H D = none → Ex H H' → H' D = some (.lst vs') → CvsAt CF (lessL H H') H' vs' cs → Q (.ref D) H'
      | .error n => RefA K CR n H (fun cls d H' => W cls d σ H')) :
    tLcX W (iList K (tVar 2)) (gTup K 2 (gCons (gName 5) (gCons (gName 6) gNil))) (fun E => tCallS (sp_checked K CF CR okT chk) (fun _ => E) (tCons (tFld K (tVar 0) "field") (tCons (tVar 5) (tCons (tVar 6) tNil)))) [5, 6] σ H Q := by
  obtain ⟨p0, d0, rfl⟩ := hs
  have hlen := hgv.len
  refine ⟨_, rfl, gl, rfl, ⟨_, sq_of hgl⟩, fun D hD => ⟨fun i m H2 => m = ts.length - i ∧ i ≤ ts.length ∧ Ex H H2 ∧ ∃ vs' cs, H2 D = some (.lst vs') ∧ vs'.length = i ∧ CvsAt CF (del (lessL H H2) D) H vs' cs ∧
    (match (match chkAll chk f (ts.drop i) with | .ok r => Except.ok (cs ++ r) | .error n => Except.error n : Except Int (List CV)) with
      | .ok cs => ∀ D H' vs', H D = none → Ex H H' → H' D = some (.lst vs') → CvsAt CF (lessL H H') H' vs' cs → Q (.ref D) H'
      | .error n => RefA K CR n H (fun cls d H' => W cls d [some (.ref a), p0, some (.ref gl), d0, none, none, none] H')), ⟨_, rfl, Nat.zero_le _, Ex.new hD, [], [], upd_same, rfl, trivial, ?_⟩, ?_⟩⟩
  · show match (match chkAll chk f ts with | .ok r => Except.ok ([] ++ r) | .error n => Except.error n : Except Int (List CV)) with
      | .ok cs => _
      | .error n => _
    cases hc : chkAll chk f ts with
    | ok r => rw [hc] at h; exact h
    | error n => rw [hc] at h; exact h
  · rintro i m H2 ⟨rfl, hi, e2, vs', cs, hD2, hl2, hcv, h⟩
    by_cases hlt : i < ts.length
    · obtain ⟨q, hq⟩ : ∃ q, qs[i]? = some q := ⟨_, List.getElem?_eq_getElem (by omega)⟩
      obtain ⟨t, v, ht, hqt, htv⟩ := hgv.at hq
      have hvr : (vrefs qs)[i]? = some (.ref q) := by rw [vrefs, List.getElem?_map, hq]; rfl
      have hdr : ts.drop i = t :: ts.drop (i + 1) := by
        rw [List.drop_eq_getElem_cons hlt]
        congr 1
        exact (List.getElem?_eq_some_iff.mp ht).2
      refine .inr ⟨⟨vrefs qs, .ref q, sq_of (e2 _ _ hgl), hvr⟩, fun H' => Ex H H' ∧ ∃ vs' cs, H' D = some (.lst vs') ∧ vs'.length = i + 1 ∧ CvsAt CF (del (lessL H H') D) H vs' cs ∧
        (match (match chkAll chk f (ts.drop (i + 1)) with | .ok r => Except.ok (cs ++ r) | .error n => Except.error n : Except Int (List CV)) with
          | .ok cs => ∀ D H' vs', H D = none → Ex H H' → H' D = some (.lst vs') → CvsAt CF (lessL H H') H' vs' cs → Q (.ref D) H'
          | .error n => RefA K CR n H (fun cls d H' => W cls d [some (.ref a), p0, some (.ref gl), d0, none, none, none] H')), fun H' p' => ⟨ts.length - (i + 1), by omega, rfl, hlt, p'⟩, fun x H3 y => ?_⟩
      obtain ⟨rfl, y⟩ := y
      obtain rfl : V.ref q = x := Option.some.inj (hvr.symm.trans (y _ (sq_of (e2 _ _ hgl))))
      refine ⟨q, _, rfl, st_of (e2 _ _ hqt), rfl, _, _, rfl, _, _, rfl, rfl, rfl, ?_⟩
      show tCallS _ _ _ [some (.ref a), p0, some (.ref gl), d0, none, some (.str (S t.1)), some v] _ _
      refine go_callS (ea_cons (ev_fld (ev_var rfl) (e2 _ _ ha) cD nF fD_field) (ea_two (ev_var rfl) (ev_var rfl))) fun H4 e4 => ?_
      have e24 := e2.trans e4
      refine ⟨lf, f, rk, bs, t.1, t.2, v, rfl, hF.ex e24, ok, htv.ex e24, hT t (List.mem_of_getElem? ht), ?_⟩
      rw [hdr] at h
      unfold chkAll at h
      have lu : ∀ (G : Hp) (o : HO), del (lessL H (upd G D o)) D = del (lessL H G) D := fun G o => by
        have z : lessL H (upd G D o) = upd (lessL H G) D o := funext fun b => by
          by_cases zb : b = D
          · rw [zb, upd_same, lessL_at (fun xs y => by rw [hD] at y; cases y), upd_same]
          · rw [upd_ne zb]
            cases hb : H b with
            | none => rw [lessL_at (fun xs y => by rw [hb] at y; cases y), lessL_at (fun xs y => by rw [hb] at y; cases y), upd_ne zb]
            | some u => unfold lessL; rw [hb]; cases u <;> first | rfl | exact upd_ne zb
        rw [z, del_upd]
      cases hck : chk f t.1 t.2 with
      | error n =>
        rw [hck] at h
        exact RefA.mono h e24
      | ok o =>
        rw [hck] at h
        have hD4 := e4 _ _ hD2
        cases o with
        | none =>
          intro H5 e5
          refine ⟨vs', e5 _ _ hD4, sz_lt (by omega), Ex.mut (e24.trans e5) hD, vs' ++ [v], cs ++ [.inl t.2], upd_same, by rw [List.length_append, hl2]; rfl, ?_, ?_⟩
          · rw [lu]
            exact CvsAt.snoc (c := .inl t.2) (show ThAt H v t.2 from htv) (hcv.ex (Ex.del (lessL_ex (e4.trans e5)) D) (Ex.refl _))
          · cases hca : chkAll chk f (ts.drop (i + 1)) with
            | error n => rw [hca] at h; exact h
            | ok r =>
              rw [hca] at h
              show ∀ D H' vs', H D = none → Ex H H' → H' D = some (.lst vs') → CvsAt CF (lessL H H') H' vs' ((cs ++ [.inl t.2]) ++ r) → Q (.ref D) H'
              rw [List.append_assoc]
              exact h
        | some x =>
          intro p H5 np e5 hFx okx
          refine ⟨vs', e5 _ _ hD4, sz_lt (by omega), Ex.mut (e24.trans e5) hD, vs' ++ [.ref p], cs ++ [.inr x], upd_same, by rw [List.length_append, hl2]; rfl, ?_, ?_⟩
          · rw [lu]
            refine CvsAt.snoc (c := .inr x) (show ∃ p', V.ref p = V.ref p' ∧ FldW CF (del (lessL H H5) D) p' x (NM.rkAll x) (NM.bsAll x) ∧ FOk x from ⟨p, rfl, hFx.ex (fun b o hb => ?_), okx⟩) (hcv.ex (Ex.del (lessL_ex (e4.trans e5)) D) (Ex.refl _))
            obtain ⟨n, gb⟩ := lessL_get hb
            have zb : b ≠ D := fun y => n _ (by rw [y]; exact hD4)
            rw [del_ne zb, lessL_at (fun xs y => n xs (e24 _ _ y))]
            exact gb
          · cases hca : chkAll chk f (ts.drop (i + 1)) with
            | error n => rw [hca] at h; exact h
            | ok r =>
              rw [hca] at h
              show ∀ D H' vs', H D = none → Ex H H' → H' D = some (.lst vs') → CvsAt CF (lessL H H') H' vs' ((cs ++ [.inr x]) ++ r) → Q (.ref D) H'
              rw [List.append_assoc]
              exact h
    · have ei : i = ts.length := by omega
      rw [ei, List.drop_length] at h
      refine .inl ⟨?_, ?_⟩
      · exact ⟨vrefs qs, sq_of (e2 _ _ hgl), by rw [vrefs_len]; omega⟩
      · replace h : ∀ D H' vs', H D = none → Ex H H' → H' D = some (.lst vs') → CvsAt CF (lessL H H') H' vs' (cs ++ []) → Q (.ref D) H' := h
        rw [List.append_nil] at h
        exact h D H2 vs' hD e2 hD2 (hcv.ex (del_ex _ _) e2)
end
section
variable {P : Program} {w : World} {K : PySem.W.Frag} {mg : Str → Option Value} {base : Heap} {CW CFa CF CD CC aD CR : Addr} {g : Int → List (List Nat)} {Ask : List (List Int) → Prop} {Sd : Addr → Sp → Prop} {okT : List Nat → Thing → Prop} {chk : Fld → List Nat → Thing → Except Int (Option Fld)} {okC : Int → Vbenaf.State → List CV → Prop} {dsp : Int → Vbenaf.State → List CV → Except Int (Vbenaf.State × List Int)}
-- def answer(desk, number, given):
--     doer = DOERS[number]
--     try:
--         return doer(desk, [checked(desk.field, kind, thing) for kind, thing in given])
--     except Refusal as e:
--         return [e.number]
-- slots 0:desk 1:number 2:given 3:doer 4:kind 5:thing
abbrev sanswer : Stmt := top 99
theorem scanswer : FnScope ["desk", "number", "given", "doer", "kind", "thing"] ["desk", "number", "given"] (defScope sanswer) := ⟨rfl, rfl, rfl, by decide +kernel, rfl, by decide +kernel, by decide +kernel⟩
abbrev NA : List Str := ["desk", "number", "given", "doer", "e", "kind", "thing"]
theorem scA : FnScope NA ["desk", "number", "given"] (defScope sanswer) := ⟨rfl, rfl, rfl, by decide +kernel, rfl, by decide +kernel, by decide +kernel⟩
theorem ok_answer {f : Addr} {fd : FuncData} (F : Fun K "answer" "answer" sanswer f fd) (T : TxtW2 K mg aD CR CD) (c_checked : Cal P w K mg base (L2.CX P w) 8 "checked" (sp_checked K CF CR okT chk)) (hdo : ∀ f sp, Sd f sp → Doer P w K mg base 9 f sp)
    (hAsk : ∀ c, Ask c → (∀ t ∈ (thingsOf g c).2, okT t.1 t.2) ∧ (thingsOf g c).2.length ≤ 100000 ∧ ∃ f, KInt K aD (thingsOf g c).1 (.ref f) ∧ Sd f (sp_doer K CD CC CF CR (okC (thingsOf g c).1) (dsp (thingsOf g c).1)))
    (hOk : ∀ st c cs, Ask c → FOk st.field → chkAll chk st.field (thingsOf g c).2 = .ok cs → okC (thingsOf g c).1 st cs)
    (hstep : ∀ st c, Ask c → FOk st.field → Vbenaf.step st c = match chkAll chk st.field (thingsOf g c).2 with
      | .error n => (st, [n])
      | .ok cs => match dsp (thingsOf g c).1 st cs with
        | .error n => (st, [n])
        | .ok r => r) : FnOk P w K mg base CX0 10 f fd ["desk", "number", "given"] (sp_answer CD CC CF g Ask) := by
  refine F.ok scA (fun vs H Q E h => ?_) (fun cdv A outer s H vs Q E hr h => ?_)
  · obtain ⟨a, gl, nl, st, c, qs, ys, rfl, _⟩ := h
    rfl
  · obtain ⟨a, gl, nl, st, c, qs, ys, rfl, hnl, hd, hgl, hgv, hask, ret⟩ := h
    refine ⟨_, (pss_cons (ps_set (i := 3) scA.nd rfl (Or.inl rfl) (pixi K (pgr T.DOERS) (pv 1)))
      (pss_one (ps_try_as (i := 4) (tb := fun W => tRet (tCallD 3 Sd W (tCons (tVar 0) (tCons (tLcX W (iList K (tVar 2)) (gTup K 2 (gCons (gName 5) (gCons (gName 6) gNil))) (fun E => tCallS (sp_checked K CF CR okT chk) (fun _ => E) (tCons (tFld K (tVar 0) "field") (tCons (tVar 5) (tCons (tVar 6) tNil)))) [5, 6]) tNil))))
        (ts := fun a cls d => tRet (tLst (tCons (tXfA K a cls d "number" (tVar 4)) tNil))) (Wout := fun _ _ _ _ => False) rfl rfl scA.nd rfl rfl ⟨rfl, by decide, Or.inl T.Refusal⟩ takes0
        (fun W pn xe tk hp => pss_one (ps_ret (pe_callD hdo hr rfl (Or.inl rfl) tk (pa_cons (pv 0) (pa_cons (pe_lcX (own := [("kind", 5), ("thing", 6)]) (by rfl) scA.nd rfl rfl tk (piList K (pv 2)) (blkOk_by (own := [("kind", 5), ("thing", 6)]) (N := NA) (sc := defScope sanswer) (by decide +kernel))
          (fun _ _ _ _ _ => (pgTup K (by rfl) (pgs_cons (pg_name (i := 5) scA.nd rfl (Or.inl rfl)) (pgs_cons (pg_name (i := 6) scA.nd rfl (Or.inl rfl)) pgs_nil))))
          (fun s1 H1 C cl fp E1 => by
            obtain ⟨f1, fd1, ps1, F1, m1, k1, b1⟩ := c_checked.ex
            exact pe_callS F1 (hr.mono (by decide)) (by rfl) m1 k1 b1 (fun σ => Out.at _ E1 σ) (pa_cons (pfld K (pv 0)) (pa_cons (pv 5) (pa_cons (pv 6) pa_nil))))) pa_nil)))))
        (fun a oe cls d pn hz hf => pss_one (ps_ret (pe_lst (pa_cons (pe_xfA hz hf (pv 4)) pa_nil))))))), ?_⟩
    obtain ⟨hT, hz, fd0, hK, hS⟩ := hAsk c hask
    have hst := hstep st c hask hd.ok
    obtain ⟨dx, lf, lc, hda, hdF, _⟩ := hd.ex
    refine q_asg (ev_op ev_c (ev_var rfl) (rv_ixI hK)) fun H1 e1 => ?_
    have ha1 := e1 _ _ (del_ex _ _ _ _ hda)
    have hF1 := hdF.ex ((del_ex _ _).trans e1)
    -- the suite: the refusal's number is the answer
    have hand : ∀ (G : Hp) (n : Int), Ex H G → Vbenaf.step st c = (st, [n]) → RefA K CR n G (fun cls d H' => wAs K (.ref CR) 4 (fun a cls d => tRet (tLst (tCons (tXfA K a cls d "number" (tVar 4)) tNil))) (fun _ _ _ _ => False) { nx := fun x H' => Q V.non H', rt := Q } cls d [some (.ref a), some (.int (thingsOf g c).1), some (.ref gl), some (.ref fd0), none, none, none] H') :=
      fun G n eG hs C d fs H' hx hno hexm nd e' hxd hlk => ⟨true, hexm, fun _ a0 na => by
        refine ⟨C, hx, hno, _, rfl, rfl, rfl, d, fs, .int n, rfl, hxd, hlk, sz_of (Nat.le_of_ble_eq_true rfl), fun q nq => ?_⟩
        have eH := eG.trans e'
        have eQ : Ex H (upd H' q (.lst [.int n])) := eH.trans (Ex.new nq)
        refine ret q _ (fresh_back eH nq) (ExT.of eQ) (by rw [hs]; exact hd.ex' (Ex.del eQ nl)) (by rw [hs]; exact upd_same), fun z => by cases z⟩
    refine ⟨fd0, _, rfl, hS, _, rfl, go_checked (lc := lc) T.cD T.nField ha1 hF1 hd.ok (e1 _ _ hgl) (hgv.ex e1) hT hz ⟨_, _, rfl⟩ ?_⟩
    cases hca : chkAll chk st.field (thingsOf g c).2 with
    | error n =>
      rw [hca] at hst
      exact hand H1 n e1 hst
    | ok cs =>
      rw [hca] at hst
      replace hst : Vbenaf.step st c = match dsp (thingsOf g c).1 st cs with
        | .error n => (st, [n])
        | .ok r => r := hst
      intro D H2 vs' nD e2 hD hcv
      have e02 := e1.trans e2
      have hnl2 := e02 _ _ hnl
      refine ⟨a, D, nl, ys, vs', st, cs, rfl, hnl2, hd.ex' (Ex.del e02 nl), hD, hcv.ex (less_del (e1 _ _ hnl)) (Ex.refl _), hOk st c cs hask hd.ok hca, ?_⟩
      cases hdp : dsp (thingsOf g c).1 st cs with
      | error n =>
        rw [hdp] at hst
        exact hand H2 n e02 hst
      | ok r =>
        obtain ⟨st', ans⟩ := r
        rw [hdp] at hst
        intro q H3 nq e3 hD3 hq
        exact ret q H3 (fresh_back e02 nq) ((ExT.of e02).trans e3) (by rw [hst]; exact hD3) (by rw [hst]; exact hq)
end
end N
set_option Elab.async false
set_option linter.all false
set_option maxRecDepth 100000
set_option maxHeartbeats 4000000
namespace N
open PySem PySem.Spec PyProof.Rows L2 Evl
open NM (Thing want thingsOf Fits vI rI FOk)
theorem vints_row (l : List Nat) : vints (Vbenaf.listRow l) = .int (l.length : Int) :: vnats l := by
  unfold Vbenaf.listRow vints vnats VbenCore.ints
  rw [List.map_cons, List.map_map]
  rfl
theorem cvs1 {CF : Addr} {Hd H : Hp} {c : CV} : ∀ {vs : List V}, CvsAt CF Hd H vs [c] → ∃ v, vs = [v] ∧ CvAt CF Hd H v c
  | [v], h => ⟨v, rfl, h.1⟩
  | [], h => h.elim
  | _ :: _ :: _, h => h.2.elim
theorem cvs2 {CF : Addr} {Hd H : Hp} {c d : CV} : ∀ {vs : List V}, CvsAt CF Hd H vs [c, d] → ∃ v u, vs = [v, u] ∧ CvAt CF Hd H v c ∧ CvAt CF Hd H u d
  | [v, u], h => ⟨v, u, rfl, h.1, h.2.1⟩
  | [], h => h.elim
  | [_], h => h.2.elim
  | _ :: _ :: _ :: _, h => h.2.2.elim
section
variable {K : PySem.W.Frag} {σ : L2.St} {H : Hp} {te : TE}
theorem el_countedN {xs : List V} (h : EvL te σ H xs) (hz : xs.length ≤ 40000) : EvL (tCall sp_counted [] E0 (tCons te tNil)) σ H (.int (xs.length : Int) :: xs) := fun H1 e1 Q k =>
  h H1 e1 _ fun p H2 np e2 hp => sp_nil (sp := sp_counted) (vs := [.ref p]) ⟨_, ⟨p, xs, rfl, hp, hz, rfl⟩, fun q H3 nq e3 hq => k q H3 (fresh_back e2 nq) (e2.trans e3) hq⟩
theorem el_counted {xs : List V} {p : Addr} (h : Ev te σ H (.ref p)) (hp : H p = some (.lst xs)) (hz : xs.length ≤ 40000) : EvL (tCall sp_counted [] E0 (tCons te tNil)) σ H (.int (xs.length : Int) :: xs) := fun H1 e1 Q k =>
  h H1 e1 _ fun H2 e2 => sp_nil (sp := sp_counted) (vs := [.ref p]) ⟨_, ⟨p, xs, rfl, (e1.trans e2) _ _ hp, hz, rfl⟩, fun q H3 nq e3 hq => k q H3 (fresh_back e2 nq) (e2.trans e3) hq⟩
end
/-- k: a state; w: a value -/
abbrev cN (k : Nat) : CV := .inl (.num (k : Int))
structure TxtC (K : PySem.W.Frag) (mg : Str → Option Value) (CD CF : Addr) : Prop extends Txt K mg CF where
  cD : Cls K CD
  nField : NoAttr K CD "field"
section
variable {P : Program} {w : World} {K : PySem.W.Frag} {mg : Str → Option Value} {base : Heap} {CF CD CC CR : Addr}
-- def call_ways(desk, given):
--     return counted(desk.field.ways(given[0], given[1]))
-- slots 0:desk 1:given
abbrev scall_ways : Stmt := top 82
theorem sccall_ways : FnScope ["desk", "given"] ["desk", "given"] (defScope scall_ways) := ⟨rfl, rfl, rfl, by decide +kernel, rfl, by decide +kernel, by decide +kernel⟩
def okS (st : Vbenaf.State) (cs : List CV) : Prop := ∃ k : Nat, cs = [cN k] ∧ k < Vbenaf.states st.field
def okSV (st : Vbenaf.State) (cs : List CV) : Prop := ∃ k v : Nat, cs = [cN k, cN v] ∧ k < Vbenaf.states st.field ∧ v < st.field.values.length
def nA (i : Nat) (cs : List CV) : Nat := match cs[i]? with
  | some (.inl (.num k)) => k.toNat
  | _ => 0
def dWays (st : Vbenaf.State) (cs : List CV) : Except Int (Vbenaf.State × List Int) := .ok (st, Vbenaf.listRow (Vbenaf.ways st.field (nA 0 cs) (nA 1 cs)))
theorem ways_len (f : Fld) (s w : Nat) : (Vbenaf.ways f s w).length ≤ Vbenaf.states f := by
  unfold Vbenaf.ways
  exact Nat.le_trans (List.length_filter_le _ _) (by rw [List.length_range]; exact Nat.le_refl _)
theorem ok_call_ways {f : Addr} {fd : FuncData} (F : Fun K "call_ways" "call_ways" scall_ways f fd) (T : TxtC K mg CD CF) (m_Field_ways : Met P w K mg base CX0 1 CF "ways" (spF_ways CF)) (c_counted : Cal P w K mg base CX0 1 "counted" sp_counted) : FnOk P w K mg base (L2.CX P w) 9 f fd ["desk", "given"] (sp_doer K CD CC CF CR okSV dWays) := by
  refine F.okX sccall_ways (fun vs H Q E h => ?_) (fun cdv A outer s H vs Q E hr h => ?_)
  · obtain ⟨a, l, nl, ys, vs', st, cs, rfl, _⟩ := h
    rfl
  · obtain ⟨a, l, nl, ys, vs', st, cs, rfl, hnl, hd, hl, hcv, ⟨k, v, rfl, hk, hv⟩, ret⟩ := h
    refine ⟨_, (pss_one (ps_ret (pc c_counted hr (by decide) (by rfl) (pa_cons (pmt m_Field_ways hr (by decide) (pfld K (pv 0)) (pa_cons (pix K (pv 1) pe_int) (pa_cons (pix K (pv 1) pe_int) pa_nil))) pa_nil)))), ?_⟩
    obtain ⟨dx, lf, lc, ha, hF, _⟩ := hd.ex
    replace ha := del_ex _ _ _ _ ha
    replace hF := hF.ex (del_ex _ _)
    obtain ⟨v1, v2, rfl, hv1, hv2⟩ := cvs2 hcv
    obtain ⟨A1, hL⟩ := id hF
    have n64 := hd.ok.n64
    have hwl := ways_len st.field k v
    refine s_retL (xs := vints (Vbenaf.listRow (Vbenaf.ways st.field k v))) ?_ fun q H1 nq e1 hq => ret q H1 nq (ExT.of e1) (hd.ex' (Ex.del e1 nl)) hq
    rw [vints_row]
    have z := el_countedN (te := tMeth CF "ways" (spF_ways CF) [] E0 (tFld K (tVar 0) "field") (tCons (tOp (rIxL K) (tVar 1) (tC (.int 0))) (tCons (tOp (rIxL K) (tVar 1) (tC (.int 1))) tNil))) (σ := [some (.ref a), some (.ref l)]) (H := H) (xs := vnats (Vbenaf.ways st.field k v))
      (el_mth (ev_fld (ev_var rfl) ha T.cD T.nField fD_field) hL.o (fF_no (by decide +kernel)) (ea_two (ev_op (ev_var rfl) ev_c (rv_ixL (sq_of hl) rfl)) (ev_op (ev_var rfl) ev_c (rv_ixL (sq_of hl) rfl))) (pL.sp fun H1 e1 => ⟨lf, k, v, st.field, _, _, by rw [show v1 = _ from hv1, show v2 = _ from hv2], hF.ex e1, hd.ok, hk, rfl⟩)) (by rw [vnats_len]; omega)
    rw [vnats_len] at z
    exact z
end
end N
set_option Elab.async false
set_option linter.all false
set_option maxRecDepth 100000
set_option maxHeartbeats 4000000
namespace N
open PySem PySem.Spec PyProof.Rows L2 Evl
open NM (Thing want thingsOf Fits vI rI FOk)
section
variable {P : Program} {w : World} {K : PySem.W.Frag} {mg : Str → Option Value} {base : Heap} {CF CD CC CR : Addr}
-- def call_told(desk, given):
--     field = desk.field
--     return [field.holes, len(field.names), len(field.lets), field.valued_count()]
-- slots 0:desk 1:given 2:field
abbrev scall_told : Stmt := top 80
theorem sccall_told : FnScope ["desk", "given", "field"] ["desk", "given"] (defScope scall_told) := ⟨rfl, rfl, rfl, by decide +kernel, rfl, by decide +kernel, by decide +kernel⟩
def okNo (_ : Vbenaf.State) (cs : List CV) : Prop := cs = []
def dTold (st : Vbenaf.State) (_ : List CV) : Except Int (Vbenaf.State × List Int) := .ok (st, VbenCore.ints [st.field.holes, st.field.values.length, st.field.lets.length, (st.field.table.filter fun x => x.isSome).length])
theorem ok_call_told {f : Addr} {fd : FuncData} (F : Fun K "call_told" "call_told" scall_told f fd) (T : TxtC K mg CD CF) (m_Field_valued_count : Met P w K mg base CX0 1 CF "valued_count" (spF_valued_count CF)) : FnOk P w K mg base (L2.CX P w) 9 f fd ["desk", "given"] (sp_doer K CD CC CF CR okNo dTold) := by
  refine F.okX sccall_told (fun vs H Q E h => ?_) (fun cdv A outer s H vs Q E hr h => ?_)
  · obtain ⟨a, l, nl, ys, vs', st, cs, rfl, _⟩ := h
    rfl
  · obtain ⟨a, l, nl, ys, vs', st, cs, rfl, hnl, hd, hl, hcv, rfl, ret⟩ := h
    refine ⟨_, (pss_cons (ps_set (i := 2) sccall_told.nd rfl (Or.inl rfl) (pfld K (pv 0)))
      (pss_one (ps_ret (pe_lst (pa_cons (pfld K (pv 2)) (pa_cons (plen K T.len (pfld K (pv 2))) (pa_cons (plen K T.len (pfld K (pv 2))) (pa_cons (pmt0 m_Field_valued_count hr (by decide) (pv 2)) pa_nil)))))))), ?_⟩
    obtain ⟨dx, lf, lc, ha, hF, _⟩ := hd.ex
    replace ha := del_ex _ _ _ _ ha
    replace hF := hF.ex (del_ex _ _)
    refine q_asg (ev_fld (ev_var rfl) ha T.cD T.nField fD_field) fun H1 e1 => ?_
    have hF1 := hF.ex e1
    obtain ⟨A1, hL⟩ := id hF1
    have plen := hL.p.len
    show tRet _ _ [some (.ref a), some (.ref l), some (.ref lf)] _
    refine s_retL (xs := vints (VbenCore.ints [st.field.holes, st.field.values.length, st.field.lets.length, (st.field.table.filter fun x => x.isSome).length]))
      (el_lst (ea_cons (ev_fld (ev_var rfl) hL.o T.cF T.nHoles fF_holes) (ea_cons (ev_lenE (ev_fld (ev_var rfl) hL.o T.cF T.nNames fF_names) hL.n (vstrs_len _)) (ea_two (ev_lenE (ev_fld (ev_var rfl) hL.o T.cF T.nLets fF_lets) hL.l (by rw [vrefs_len, plen])) (ev_mth (ev_var rfl) hL.o (fF_no (by decide +kernel)) ea_nil (pV.sp fun H2 e2 => ⟨lf, st.field, _, _, rfl, hF1.ex e2, hd.ok, rfl⟩))))) (Nat.le_of_ble_eq_true rfl)) fun q H2 nq e2 hq => ret q H2 (fresh_back e1 nq) (ExT.of (e1.trans e2)) (hd.ex' (Ex.del (e1.trans e2) nl)) hq
/-- a new field is laid on the desk -/
theorem laid {H H1 H2 H3 : Hp} {a nl q c dx dc lf lc : Addr} {ys : List V} {x : Fld} (hnl : H nl = some (.lst ys)) (ha : H a = some (.ins CD dx (fD lf lc))) (nal : a ≠ nl) (nqa : q ≠ a) (e1 : Ex H H1) (hF : FldW CF (del H1 nl) q x (NM.rkAll x) (NM.bsAll x)) (ok : FOk x)
    (nc : H1 c = none) (e2 : ExB a H1 H2) (ha2 : H2 a = some (.ins CD dx (fD q c))) (hc2 : H2 c = some (.ins CC dc (fC q 0 0))) (e3 : Ex H2 H3) : ExT H H3 ∧ DeskAt CD CC CF (del H3 nl) a { field := x, now := 0, made := 0 } := by
  have ha1 := e1 _ _ ha
  have ncn : c ≠ nl := fun z => by rw [z, e1 _ _ hnl] at nc; cases nc
  have eB : ExB a (del H1 nl) (del H2 nl) := fun b o n h => by
    by_cases z : b = nl
    · rw [z, del_same] at h; cases h
    · rw [del_ne z] at h ⊢
      exact e2 b o n h
  refine ⟨(ExT.of e1).trans ((ExT.ofB e2 ha1).trans (ExT.of e3)), ⟨dx, q, c, (del_ne nal).trans (e3 _ _ ha2), (hF.exB ((del_ne nal).trans ha1) nqa eB).ex (Ex.del e3 nl), dc, (del_ne ncn).trans (e3 _ _ hc2)⟩, ok, (Nat.lt_of_lt_of_le (by decide) ok.n2 : 0 < Vbenaf.states x)⟩
-- def call_clear(desk, given):
--     desk.lay(first_field())
--     return [0]
-- slots 0:desk 1:given
abbrev scall_clear : Stmt := top 76
theorem sccall_clear : FnScope ["desk", "given"] ["desk", "given"] (defScope scall_clear) := ⟨rfl, rfl, rfl, by decide +kernel, rfl, by decide +kernel, by decide +kernel⟩
def dClear (_ : Vbenaf.State) (_ : List CV) : Except Int (Vbenaf.State × List Int) := .ok (Vbenaf.start, [0])
theorem ok_call_clear {f : Addr} {fd : FuncData} (F : Fun K "call_clear" "call_clear" scall_clear f fd) (m_Desk_lay : Met P w K mg base CX0 4 CD "lay" (spD_lay CD CC)) (c_first_field : Cal P w K mg base CX0 7 "first_field" (sp_first_field CF)) : FnOk P w K mg base (L2.CX P w) 9 f fd ["desk", "given"] (sp_doer K CD CC CF CR okNo dClear) := by
  refine F.okX sccall_clear (fun vs H Q E h => ?_) (fun cdv A outer s H vs Q E hr h => ?_)
  · obtain ⟨a, l, nl, ys, vs', st, cs, rfl, _⟩ := h
    rfl
  · obtain ⟨a, l, nl, ys, vs', st, cs, rfl, hnl, hd, hl, hcv, rfl, ret⟩ := h
    refine ⟨_, (pss_cons (ps_expr (pmt m_Desk_lay hr (by decide) (pv 0) (pa_cons (pc0 c_first_field hr (by decide) (by rfl)) pa_nil)))
      (pss_one (ps_ret (pe_lst (pa_cons pe_int pa_nil))))), ?_⟩
    obtain ⟨dx, lf, lc, ha, hF, _⟩ := hd.ex
    have nal : a ≠ nl := fun z => by rw [z, del_same] at ha; cases ha
    replace ha := del_ex _ _ _ _ ha
    refine ⟨_, rfl, a, dx, _, rfl, ha, fD_lay, rfl, fun q H1 nq e1 hF1 => ?_⟩
    refine ⟨a, dx, q, lf, lc, rfl, e1 _ _ ha, fun c dc H2 nc e2 ha2 hc2 => ?_⟩
    refine s_retL (σ := [some (.ref a), some (.ref l)]) (xs := vints [0]) (el_lst (ea_one ev_c) (Nat.le_of_ble_eq_true rfl)) fun p H3 np e3 hp => ?_
    obtain ⟨h1, h2⟩ := laid (CC := CC) (x := f0) hnl ha nal (fun z => by rw [z, ha] at nq; cases nq) e1 (hF1.ex (less_del hnl)) f0_ok nc e2 ha2 hc2 e3
    refine ret p H3 ?_ h1 h2 hp
    exact fresh_back e1 (e2.none ha2 np)
-- def call_worst(desk, given):
--     return counted(desk.field.worst_row(given[0]))
-- slots 0:desk 1:given
abbrev scall_worst : Stmt := top 85
theorem sccall_worst : FnScope ["desk", "given"] ["desk", "given"] (defScope scall_worst) := ⟨rfl, rfl, rfl, by decide +kernel, rfl, by decide +kernel, by decide +kernel⟩
def dWorst (st : Vbenaf.State) (cs : List CV) : Except Int (Vbenaf.State × List Int) := .ok (st, Vbenaf.listRow (NM.worst st.field (nA 0 cs)))
theorem ok_call_worst {f : Addr} {fd : FuncData} (F : Fun K "call_worst" "call_worst" scall_worst f fd) (T : TxtC K mg CD CF) (m_Field_worst_row : Met P w K mg base CX0 4 CF "worst_row" (spF_worst_row CF)) (c_counted : Cal P w K mg base CX0 1 "counted" sp_counted) : FnOk P w K mg base (L2.CX P w) 9 f fd ["desk", "given"] (sp_doer K CD CC CF CR okS dWorst) := by
  refine F.okX sccall_worst (fun vs H Q E h => ?_) (fun cdv A outer s H vs Q E hr h => ?_)
  · obtain ⟨a, l, nl, ys, vs', st, cs, rfl, _⟩ := h
    rfl
  · obtain ⟨a, l, nl, ys, vs', st, cs, rfl, hnl, hd, hl, hcv, ⟨k, rfl, hk⟩, ret⟩ := h
    refine ⟨_, (pss_one (ps_ret (pc c_counted hr (by decide) (by rfl) (pa_cons (pmt m_Field_worst_row hr (by decide) (pfld K (pv 0)) (pa_cons (pix K (pv 1) pe_int) pa_nil)) pa_nil)))), ?_⟩
    obtain ⟨dx, lf, lc, ha, hF, _⟩ := hd.ex
    replace ha := del_ex _ _ _ _ ha
    replace hF := hF.ex (del_ex _ _)
    obtain ⟨v1, rfl, hv1⟩ := cvs1 hcv
    obtain ⟨A1, hL⟩ := id hF
    have n64 := hd.ok.n64
    have hwl : (NM.worst st.field k).length ≤ Vbenaf.states st.field := NM.worst_len _ _
    refine s_retL (xs := vints (Vbenaf.listRow (NM.worst st.field k))) ?_ fun q H1 nq e1 hq => ret q H1 nq (ExT.of e1) (hd.ex' (Ex.del e1 nl)) hq
    rw [vints_row]
    have z := el_countedN (te := tMeth CF "worst_row" (spF_worst_row CF) [] E0 (tFld K (tVar 0) "field") (tCons (tOp (rIxL K) (tVar 1) (tC (.int 0))) tNil)) (σ := [some (.ref a), some (.ref l)]) (H := H) (xs := vnats (NM.worst st.field k))
      (el_mth (ev_fld (ev_var rfl) ha T.cD T.nField fD_field) hL.o (fF_no (by decide +kernel)) (ea_one (ev_op (ev_var rfl) ev_c (rv_ixL (sq_of hl) rfl))) (pL.sp fun H1 e1 => ⟨lf, k, st.field, by rw [show v1 = _ from hv1], ⟨hd.ok, hF.ex e1⟩, hk, rfl⟩)) (by rw [vnats_len]; omega)
    rw [vnats_len] at z
    exact z
-- def call_field(desk, given):
--     field = given[0]
--     desk.lay(field)
--     return [field.holes, len(field.names), field.valued_count()]
-- slots 0:desk 1:given 2:field
abbrev scall_field : Stmt := top 77
theorem sccall_field : FnScope ["desk", "given", "field"] ["desk", "given"] (defScope scall_field) := ⟨rfl, rfl, rfl, by decide +kernel, rfl, by decide +kernel, by decide +kernel⟩
def fA (cs : List CV) : Fld := match cs with
  | .inr f :: _ => f
  | _ => Vbenaf.noField
def okF (_ : Vbenaf.State) (cs : List CV) : Prop := ∃ f, cs = [.inr f]
def dField (_ : Vbenaf.State) (cs : List CV) : Except Int (Vbenaf.State × List Int) := .ok ({ field := fA cs, now := 0, made := 0 }, VbenCore.ints [(fA cs).holes, (fA cs).values.length, ((fA cs).table.filter fun x => x.isSome).length])
theorem ok_call_field {f : Addr} {fd : FuncData} (F : Fun K "call_field" "call_field" scall_field f fd) (T : TxtC K mg CD CF) (m_Desk_lay : Met P w K mg base CX0 4 CD "lay" (spD_lay CD CC)) (m_Field_valued_count : Met P w K mg base CX0 1 CF "valued_count" (spF_valued_count CF)) : FnOk P w K mg base (L2.CX P w) 9 f fd ["desk", "given"] (sp_doer K CD CC CF CR okF dField) := by
  refine F.okX sccall_field (fun vs H Q E h => ?_) (fun cdv A outer s H vs Q E hr h => ?_)
  · obtain ⟨a, l, nl, ys, vs', st, cs, rfl, _⟩ := h
    rfl
  · obtain ⟨a, l, nl, ys, vs', st, cs, rfl, hnl, hd, hl, hcv, ⟨x, rfl⟩, ret⟩ := h
    refine ⟨_, (pss_cons (ps_set (i := 2) sccall_field.nd rfl (Or.inl rfl) (pix K (pv 1) pe_int))
      (pss_cons (ps_expr (pmt m_Desk_lay hr (by decide) (pv 0) (pa_cons (pv 2) pa_nil)))
      (pss_one (ps_ret (pe_lst (pa_cons (pfld K (pv 2)) (pa_cons (plen K T.len (pfld K (pv 2))) (pa_cons (pmt0 m_Field_valued_count hr (by decide) (pv 2)) pa_nil)))))))), ?_⟩
    obtain ⟨dx, lf, lc, ha, hF, _⟩ := hd.ex
    have nal : a ≠ nl := fun z => by rw [z, del_same] at ha; cases ha
    have hal := ha
    replace ha := del_ex _ _ _ _ ha
    obtain ⟨v1, rfl, q, rfl, hFq, okx⟩ := cvs1 hcv
    have nqa : q ≠ a := by
      obtain ⟨A1, hL⟩ := id hFq
      refine ne_of hL.o hal fun z => ?_
      injection z with z1 z2 z3
      exact absurd (congrArg List.length z3) (by show ¬ (7 : Nat) = 2; decide)
    refine q_asg (ev_op (ev_var rfl) ev_c (rv_ixL (sq_of hl) rfl)) fun H1 e1 => ?_
    refine ⟨_, rfl, a, dx, _, rfl, e1 _ _ ha, fD_lay, _, rfl, a, dx, q, lf, lc, rfl, e1 _ _ ha, fun c dc H2 nc e2 ha2 hc2 => ?_⟩
    have hFq1 : FldW CF (del H1 nl) q x (NM.rkAll x) (NM.bsAll x) := hFq.ex (Ex.del e1 nl)
    have eB : ExB a (del H1 nl) (del H2 nl) := fun b o n h => by
      by_cases z : b = nl
      · rw [z, del_same] at h; cases h
      · rw [del_ne z] at h ⊢
        exact e2 b o n h
    have hFq2 : FldW CF H2 q x (NM.rkAll x) (NM.bsAll x) := (hFq1.exB ((del_ne nal).trans (e1 _ _ ha)) nqa eB).ex (del_ex _ _)
    obtain ⟨A2, hL2⟩ := id hFq2
    refine s_retL (σ := [some (.ref a), some (.ref l), some (.ref q)]) (xs := vints (VbenCore.ints [x.holes, x.values.length, (x.table.filter fun x => x.isSome).length])) (el_lst (ea_cons (ev_fld (ev_var rfl) hL2.o T.cF T.nHoles fF_holes) (ea_two (ev_lenE (ev_fld (ev_var rfl) hL2.o T.cF T.nNames fF_names) hL2.n (vstrs_len _)) (ev_mth (ev_var rfl) hL2.o (fF_no (by decide +kernel)) ea_nil (pV.sp fun H3 e3 => ⟨q, x, _, _, rfl, hFq2.ex e3, okx, rfl⟩)))) (Nat.le_of_ble_eq_true rfl)) fun p H3 np e3 hp => ?_
    obtain ⟨h1, h2⟩ := laid (CC := CC) (x := x) hnl ha nal nqa e1 hFq1 okx nc e2 ha2 hc2 e3
    exact ret p H3 (fresh_back e1 (e2.none ha2 np)) h1 h2 hp
end
end N
set_option Elab.async false
set_option linter.all false
set_option maxRecDepth 100000
set_option maxHeartbeats 4000000
namespace N
open PySem PySem.Spec PyProof.Rows L2 Evl
open NM (Thing want thingsOf Fits vI FOk)
theorem rank_num (f : Fld) (ok : NM.FBk f) {s : Nat} (hs : s < Vbenaf.states f) : (if NM.rI (Vbenaf.rank f s) = 1000 then (-1 : Int) else NM.rI (Vbenaf.rank f s)) = Vbenaf.rankNum (Vbenaf.rank f s) := by
  cases h : Vbenaf.rank f s with
  | none => rfl
  | some n =>
    have := ok.small' hs n h
    show (if (n : Int) = 1000 then _ else _) = (n : Int)
    rw [if_neg (by omega)]
    rfl
section
variable {P : Program} {w : World} {K : PySem.W.Frag} {mg : Str → Option Value} {base : Heap} {CF CD CC CR : Addr}
-- def call_ranks(desk, given):
--     return counted([rank_number(rank) for rank in desk.field.ranks])
-- slots 0:desk 1:given 2:rank
abbrev scall_ranks : Stmt := top 83
theorem sccall_ranks : FnScope ["desk", "given", "rank"] ["desk", "given"] (defScope scall_ranks) := ⟨rfl, rfl, rfl, by decide +kernel, rfl, by decide +kernel, by decide +kernel⟩
def dRanks (st : Vbenaf.State) (_ : List CV) : Except Int (Vbenaf.State × List Int) := .ok (st, ((Vbenaf.ranks st.field).length : Int) :: (Vbenaf.ranks st.field).map Vbenaf.rankNum)
theorem ranks_len (f : Fld) : (Vbenaf.ranks f).length = Vbenaf.states f := by
  have z := NM.rkAll_len f
  unfold NM.rkAll at z
  rw [List.length_map] at z
  exact z
theorem rank_get (f : Fld) {r : Vbenaf.Rank} (h : r ∈ Vbenaf.ranks f) : ∃ s, s < Vbenaf.states f ∧ r = Vbenaf.rank f s := by
  obtain ⟨i, hi, e⟩ := List.mem_iff_getElem.mp h
  refine ⟨i, by rw [← ranks_len]; exact hi, ?_⟩
  unfold Vbenaf.rank
  rw [List.getD_eq_getElem?_getD, List.getElem?_eq_getElem hi, e]
  rfl
theorem ok_call_ranks {f : Addr} {fd : FuncData} (F : Fun K "call_ranks" "call_ranks" scall_ranks f fd) (T : TxtC K mg CD CF) (c_rank_number : Cal P w K mg base CX0 1 "rank_number" sp_rank_number) (c_counted : Cal P w K mg base CX0 1 "counted" sp_counted) : FnOk P w K mg base (L2.CX P w) 9 f fd ["desk", "given"] (sp_doer K CD CC CF CR okNo dRanks) := by
  refine F.okX sccall_ranks (fun vs H Q E h => ?_) (fun cdv A outer s H vs Q E hr h => ?_)
  · obtain ⟨a, l, nl, ys, vs', st, cs, rfl, _⟩ := h
    rfl
  · obtain ⟨a, l, nl, ys, vs', st, cs, rfl, hnl, hd, hl, hcv, rfl, ret⟩ := h
    refine ⟨_, (pss_one (ps_ret (pc c_counted hr (by decide) (by rfl) (pa_cons (pe_lc (own := [("rank", 2)]) (g := (gName 2)) (by rfl) sccall_ranks.nd (piList K (pfld K (pfld K (pv 0)))) (blkOk_by (own := [("rank", 2)]) (N := ["desk", "given", "rank"]) (sc := defScope scall_ranks) (by decide +kernel)) (fun _ _ _ _ _ => (pg_name (i := 2) sccall_ranks.nd rfl (Or.inl rfl))) (fun _ _ _ _ _ => pts_nil) (fun _ _ _ _ _ => (pc c_rank_number hr (by decide) (by rfl) (pa_cons (pv 2) pa_nil)))) pa_nil)))), ?_⟩
    obtain ⟨dx, lf, lc, ha, hF, _⟩ := hd.ex
    replace ha := del_ex _ _ _ _ ha
    replace hF := hF.ex (del_ex _ _)
    obtain ⟨A1, hL⟩ := id hF
    have n64 := hd.ok.n64
    have hrl := ranks_len st.field
    have hr1 : H A1.lr = some (.lst ((Vbenaf.ranks st.field).map fun r => V.int (NM.rI r))) := by
      rw [hL.r]
      unfold NM.rkAll vints
      rw [List.map_map]
      rfl
    refine s_retL (xs := vints (((Vbenaf.ranks st.field).length : Int) :: (Vbenaf.ranks st.field).map Vbenaf.rankNum)) ?_ fun q H1 nq e1 hq => ret q H1 nq (ExT.of e1) (hd.ex' (Ex.del e1 nl)) hq
    have k := el_lcLm (K := K) (tl := tFld K (tFld K (tVar 0) "field") "ranks") (t := tYes) (te := tCall sp_rank_number [] E0 (tCons (tVar 2) tNil)) (σ := [some (.ref a), some (.ref l), none]) (H := H) (l := Vbenaf.ranks st.field) (c := fun r => V.int (NM.rI r)) (g := fun _ => true) (v := fun r => V.int (Vbenaf.rankNum r)) (j := 2) (vs := [2])
      (ev_fld (ev_fld (ev_var rfl) ha T.cD T.nField fD_field) hL.o T.cF T.nRanks fF_ranks) hr1 (by omega) (fun x => rfl) (fun o H3 _ _ => fun H4 _ Q q => q H4 (Ex.refl _)) (fun o H3 _ ho _ => ev_call (ea_one (ev_var rfl)) (pV.sp fun H4 e4 => ⟨NM.rI o, rfl, by
        obtain ⟨s, hs, rfl⟩ := rank_get _ ho
        rw [rank_num _ hd.ok hs]⟩))
    rw [List.filter_eq_self.mpr (fun _ _ => rfl)] at k
    have z := el_countedN k (by rw [List.length_map]; omega)
    rw [List.length_map] at z
    have e : vints (((Vbenaf.ranks st.field).length : Int) :: (Vbenaf.ranks st.field).map Vbenaf.rankNum) = .int ((Vbenaf.ranks st.field).length : Int) :: (Vbenaf.ranks st.field).map fun r => V.int (Vbenaf.rankNum r) := by
      unfold vints
      rw [List.map_cons, List.map_map]
      rfl
    rw [e]
    exact z
-- def value_number(value):
--     return value + 1
-- slots 0:value
abbrev svalue_number : Stmt := top 74
theorem scvalue_number : FnScope ["value"] ["value"] (defScope svalue_number) := ⟨rfl, rfl, rfl, by decide +kernel, rfl, by decide +kernel, by decide +kernel⟩
def sp_value_number : Sp := pV fun vs _ v => ∃ o : Option Nat, vs = [.int (vI o)] ∧ v = .int (Vbenaf.valueNum o)
theorem ok_value_number {f : Addr} {fd : FuncData} (F : Fun K "value_number" "value_number" svalue_number f fd) : FnOk P w K mg base CX0 1 f fd ["value"] sp_value_number := by
  refine F.ok scvalue_number (fun vs H Q E h => ?_) (fun cdv A outer s H vs Q E hr h => ?_)
  · obtain ⟨v, ⟨i, rfl, _⟩, _⟩ := h
    rfl
  · obtain ⟨v, ⟨o, rfl, rfl⟩, ret⟩ := h
    refine ⟨_, (pss_one (ps_ret (pe_op op_add (pv 0) pe_int))), ?_⟩
    refine s_ret (ev_is (ev_op (ev_var rfl) ev_c rv_I0) ?_) fun H1 e1 => ret H1 e1
    cases o with
    | none => rfl
    | some n => rfl
-- def call_value(desk, given):
--     state = given[0]
--     return [value_number(desk.field.table[state])] + counted(desk.field.asked(state))
-- slots 0:desk 1:given 2:state
abbrev scall_value : Stmt := top 81
theorem sccall_value : FnScope ["desk", "given", "state"] ["desk", "given"] (defScope scall_value) := ⟨rfl, rfl, rfl, by decide +kernel, rfl, by decide +kernel, by decide +kernel⟩
def dValue (st : Vbenaf.State) (cs : List CV) : Except Int (Vbenaf.State × List Int) := .ok (st, Vbenaf.valueNum (Vbenaf.valueOf st.field (nA 0 cs)) :: Vbenaf.listRow (Vbenaf.asked st.field (nA 0 cs)))
theorem ok_call_value {f : Addr} {fd : FuncData} (F : Fun K "call_value" "call_value" scall_value f fd) (T : TxtC K mg CD CF) (m_Field_asked : Met P w K mg base CX0 2 CF "asked" (spAsked CF)) (c_counted : Cal P w K mg base CX0 1 "counted" sp_counted) (c_value_number : Cal P w K mg base CX0 1 "value_number" sp_value_number) : FnOk P w K mg base (L2.CX P w) 9 f fd ["desk", "given"] (sp_doer K CD CC CF CR okS dValue) := by
  refine F.okX sccall_value (fun vs H Q E h => ?_) (fun cdv A outer s H vs Q E hr h => ?_)
  · obtain ⟨a, l, nl, ys, vs', st, cs, rfl, _⟩ := h
    rfl
  · obtain ⟨a, l, nl, ys, vs', st, cs, rfl, hnl, hd, hl, hcv, ⟨k, rfl, hk⟩, ret⟩ := h
    refine ⟨_, (pss_cons (ps_set (i := 2) sccall_value.nd rfl (Or.inl rfl) (pix K (pv 1) pe_int))
      (pss_one (ps_ret (pe_op op_cat (pe_lst (pa_cons (pc c_value_number hr (by decide) (by rfl) (pa_cons (pix K (pfld K (pfld K (pv 0))) (pv 2)) pa_nil)) pa_nil)) (pc c_counted hr (by decide) (by rfl) (pa_cons (pmt m_Field_asked hr (by decide) (pfld K (pv 0)) (pa_cons (pv 2) pa_nil)) pa_nil)))))), ?_⟩
    obtain ⟨dx, lf, lc, ha, hF, _⟩ := hd.ex
    replace ha := del_ex _ _ _ _ ha
    replace hF := hF.ex (del_ex _ _)
    obtain ⟨v1, rfl, hv1⟩ := cvs1 hcv
    refine q_asg (v := .int (k : Int)) (ev_is (ev_op (ev_var rfl) ev_c (rv_ixL (sq_of hl) rfl)) hv1) fun H1 e1 => ?_
    have hF1 := hF.ex e1
    have ha1 := e1 _ _ ha
    obtain ⟨A1, hL⟩ := id hF1
    have hal := Nat.le_trans (NM.asked_len st.field k) hd.ok.v8
    refine s_retL (σ := [some (.ref a), some (.ref l), some (.int (k : Int))]) (xs := vints (Vbenaf.valueNum (Vbenaf.valueOf st.field k) :: Vbenaf.listRow (Vbenaf.asked st.field k))) ?_ fun q H2 nq e2 hq => ret q H2 (fresh_back e1 nq) (ExT.of (e1.trans e2)) (hd.ex' (Ex.del (e1.trans e2) nl)) hq
    have z := el_countedN (te := tMeth CF "asked" (spAsked CF) [] E0 (tFld K (tVar 0) "field") (tCons (tVar 2) tNil)) (σ := [some (.ref a), some (.ref l), some (.int (k : Int))]) (H := H1) (xs := vnats (Vbenaf.asked st.field k))
      (el_mth (ev_fld (ev_var rfl) ha1 T.cD T.nField fD_field) hL.o (fF_no (by decide +kernel)) (ea_one (ev_var rfl)) (pL.sp fun H2 e2 => ⟨lf, k, st.field, _, _, rfl, hF1.ex e2, hd.ok, hk, rfl⟩)) (by rw [vnats_len]; omega)
    rw [vnats_len] at z
    have e : vints (Vbenaf.valueNum (Vbenaf.valueOf st.field k) :: Vbenaf.listRow (Vbenaf.asked st.field k)) = [.int (Vbenaf.valueNum (Vbenaf.valueOf st.field k))] ++ (.int ((Vbenaf.asked st.field k).length : Int) :: vnats (Vbenaf.asked st.field k)) := by
      rw [← vints_row]
      rfl
    rw [e]
    exact el_catNN (el_lst (ea_one (ev_call (ea_one (v_ix (ev_fld (ev_fld (ev_var rfl) ha1 T.cD T.nField fD_field) hL.o T.cF T.nTable fF_table) hL.t (ev_var rfl) hd.ok hk)) (pV.sp fun H2 e2 => ⟨Vbenaf.valueOf st.field k, rfl, rfl⟩))) (Nat.le_of_ble_eq_true rfl)) z (by simp [vnats]; omega)
end
end N
set_option Elab.async false
set_option linter.all false
set_option maxRecDepth 100000
set_option maxHeartbeats 4000000
namespace N
open PySem PySem.Spec PyProof.Rows L2 Evl
open NM (Thing want thingsOf Fits vI FOk)
theorem goTo_in {f : Fld} (ok : FOk f) {s w t : Nat} (hs : s < Vbenaf.states f) (h : Vbenaf.goTo f s w = some t) : t < Vbenaf.states f ∧ Vbenaf.count f.holes s ≤ Vbenaf.count f.holes t := by
  have m := NM.goTo_mem h
  unfold Vbenaf.ways at m
  rw [List.mem_filter, List.mem_range, Bool.and_eq_true, Bool.and_eq_true] at m
  exact ⟨m.1, NM.count_le m.2.2.1⟩
section
variable {P : Program} {w : World} {K : PySem.W.Frag} {mg : Str → Option Value} {base : Heap} {CF CD CC CR : Addr}
-- def call_go(desk, given):
--     state = given[0]
--     way = desk.field.best[state][given[1]]
--     if way == NO_WAY:
--         return [0]
--     return [1, way, notch_count(way) - notch_count(state), rank_number(desk.field.ranks[way])]
-- slots 0:desk 1:given 2:state 3:way
abbrev scall_go : Stmt := top 84
theorem sccall_go : FnScope ["desk", "given", "state", "way"] ["desk", "given"] (defScope scall_go) := ⟨rfl, rfl, rfl, by decide +kernel, rfl, by decide +kernel, by decide +kernel⟩
def dGo (st : Vbenaf.State) (cs : List CV) : Except Int (Vbenaf.State × List Int) := match Vbenaf.goTo st.field (nA 0 cs) (nA 1 cs) with
  | none => .ok (st, [0])
  | some t => .ok (st, [1, (t : Int), ((Vbenaf.count st.field.holes t - Vbenaf.count st.field.holes (nA 0 cs) : Nat) : Int), Vbenaf.rankNum (Vbenaf.rank st.field t)])
theorem ok_call_go {f : Addr} {fd : FuncData} (F : Fun K "call_go" "call_go" scall_go f fd) (T : TxtC K mg CD CF) (c_rank_number : Cal P w K mg base CX0 1 "rank_number" sp_rank_number) (c_notch_count : Cal P w K mg base CX0 1 "notch_count" sp_notch_count) : FnOk P w K mg base (L2.CX P w) 9 f fd ["desk", "given"] (sp_doer K CD CC CF CR okSV dGo) := by
  refine F.okX sccall_go (fun vs H Q E h => ?_) (fun cdv A outer s H vs Q E hr h => ?_)
  · obtain ⟨a, l, nl, ys, vs', st, cs, rfl, _⟩ := h
    rfl
  · obtain ⟨a, l, nl, ys, vs', st, cs, rfl, hnl, hd, hl, hcv, ⟨k, v, rfl, hk, hv⟩, ret⟩ := h
    refine ⟨_, (pss_cons (ps_set (i := 2) sccall_go.nd rfl (Or.inl rfl) (pix K (pv 1) pe_int))
      (pss_cons (ps_set (i := 3) sccall_go.nd rfl (Or.inl rfl) (pix K (pix K (pfld K (pfld K (pv 0))) (pv 2)) (pix K (pv 1) pe_int)))
      (pss_cons (ps_if (pt_cmpR op_eq (pv 3) (pgi T.NO_WAY) (nomark _))
        (pss_one (ps_ret (pe_lst (pa_cons pe_int pa_nil))))
        pss_nil)
      (pss_one (ps_ret (pe_lst (pa_cons pe_int (pa_cons (pv 3) (pa_cons (pe_op op_sub (pc c_notch_count hr (by decide) (by rfl) (pa_cons (pv 3) pa_nil)) (pc c_notch_count hr (by decide) (by rfl) (pa_cons (pv 2) pa_nil))) (pa_cons (pc c_rank_number hr (by decide) (by rfl) (pa_cons (pix K (pfld K (pfld K (pv 0))) (pv 3)) pa_nil)) pa_nil)))))))))), ?_⟩
    obtain ⟨dx, lf, lc, ha, hF, _⟩ := hd.ex
    replace ha := del_ex _ _ _ _ ha
    replace hF := hF.ex (del_ex _ _)
    obtain ⟨v1, v2, rfl, hv1, hv2⟩ := cvs2 hcv
    have n64 := hd.ok.n64
    refine q_asg (v := .int (k : Int)) (ev_is (ev_op (ev_var rfl) ev_c (rv_ixL (sq_of hl) rfl)) hv1) fun H1 e1 => ?_
    have hF1 := hF.ex e1
    have ha1 := e1 _ _ ha
    obtain ⟨A1, hL⟩ := id hF1
    have hbk : (NM.bsAll st.field)[k]? = some (NM.bestRow st.field k) := NM.bsAll_get hk
    show tSeq _ _ _ [some (.ref a), some (.ref l), some (.int (k : Int)), none] _
    obtain ⟨q, hq, hev⟩ := r_ix (K := K) (ta := tFld K (tFld K (tVar 0) "field") "best") (tb := tVar 2) (σ := [some (.ref a), some (.ref l), some (.int (k : Int)), none]) (ev_fld (ev_fld (ev_var rfl) ha1 T.cD T.nField fD_field) hL.o T.cF T.nBest fF_best) hL.b hL.q (ev_var rfl) hbk
    refine q_asg (v := .int (vI (Vbenaf.goTo st.field k v))) (i_ix hev hq (ev_is (ev_op (ev_var rfl) ev_c (rv_ixL (sq_of (e1 _ _ hl)) rfl)) hv2) (NM.bestRow_get hv)) fun H2 e2 => ?_
    have e02 := e1.trans e2
    refine q_when (b := decide (Vbenaf.goTo st.field k v = none)) (et_test (ev_is (ev_op (ev_var rfl) ev_c (rv_eq rfl)) (by
      congr 1
      rw [Bool.eq_iff_iff, decide_eq_true_eq, decide_eq_true_eq, V.int.injEq, NM.vI_isNone]))) (fun hb H3 e3 => ?_) (fun hb H3 e3 => ?_)
    · have hg := of_decide_eq_true hb
      replace ret : match dGo st [cN k, cN v] with | .ok (st', ans) => _ | .error n => _ := ret
      unfold dGo at ret
      replace ret : match (match Vbenaf.goTo st.field k v with
        | none => Except.ok (st, [0])
        | some t => .ok (st, [1, (t : Int), ((Vbenaf.count st.field.holes t - Vbenaf.count st.field.holes k : Nat) : Int), Vbenaf.rankNum (Vbenaf.rank st.field t)]) : Except Int (Vbenaf.State × List Int)) with
        | .ok (st', ans) => ∀ q H', H q = none → ExT H H' → DeskAt CD CC CF (del H' nl) a st' → H' q = some (.lst (vints ans)) → Q (.ref q) H'
        | .error n => RefA K CR n H E := ret
      rw [hg] at ret
      have e03 := e02.trans e3
      exact s_retL (xs := vints [0]) (el_lst (ea_one ev_c) (Nat.le_of_ble_eq_true rfl)) fun p H4 np e4 hp => ret p H4 (fresh_back e03 np) (ExT.of (e03.trans e4)) (hd.ex' (Ex.del (e03.trans e4) nl)) hp
    · cases hg : Vbenaf.goTo st.field k v with
      | none => rw [hg] at hb; cases hb
      | some t =>
        replace ret : match (match Vbenaf.goTo st.field k v with
          | none => Except.ok (st, [0])
          | some t => .ok (st, [1, (t : Int), ((Vbenaf.count st.field.holes t - Vbenaf.count st.field.holes k : Nat) : Int), Vbenaf.rankNum (Vbenaf.rank st.field t)]) : Except Int (Vbenaf.State × List Int)) with
          | .ok (st', ans) => ∀ q H', H q = none → ExT H H' → DeskAt CD CC CF (del H' nl) a st' → H' q = some (.lst (vints ans)) → Q (.ref q) H'
          | .error n => RefA K CR n H E := ret
        rw [hg] at ret
        have e03 := e02.trans e3
        have hF3 := hF.ex e03
        have ha3 := e03 _ _ ha
        obtain ⟨A3, hL3⟩ := id hF3
        obtain ⟨ht, hcnt⟩ := goTo_in hd.ok hk hg
        have c1 := NM.count_pc st.field.holes t ht
        have c2 := NM.count_pc st.field.holes k hk
        refine s_retL (σ := [some (.ref a), some (.ref l), some (.int (k : Int)), some (.int (t : Int))]) (xs := vints [1, (t : Int), ((Vbenaf.count st.field.holes t - Vbenaf.count st.field.holes k : Nat) : Int), Vbenaf.rankNum (Vbenaf.rank st.field t)])
          (el_lst (ea_cons ev_c (ea_cons (ev_var rfl) (ea_two (ev_is (ev_op (ev_call (ea_one (ev_var rfl)) (pV.sp fun H4 e4 => ⟨t, rfl, by omega, rfl⟩)) (ev_call (ea_one (ev_var rfl)) (pV.sp fun H4 e4 => ⟨k, rfl, by omega, rfl⟩)) rv_I0) (by congr 1; omega)) (ev_call (ea_one (i_ix (ev_fld (ev_fld (ev_var rfl) ha3 T.cD T.nField fD_field) hL3.o T.cF T.nRanks fF_ranks) hL3.r (ev_var rfl) (NM.rkAll_get ht))) (pV.sp fun H4 e4 => ⟨NM.rI (Vbenaf.rank st.field t), rfl, by rw [rank_num _ hd.ok ht]⟩))))) (Nat.le_of_ble_eq_true rfl)) fun p H4 np e4 hp => ret p H4 (fresh_back e03 np) (ExT.of (e03.trans e4)) (hd.ex' (Ex.del (e03.trans e4) nl)) hp
end
end N
set_option Elab.async false
set_option linter.all false
set_option maxRecDepth 100000
set_option maxHeartbeats 4000000
namespace N
open PySem PySem.Spec PyProof.Rows L2 Evl
open NM (Thing want thingsOf Fits vI FOk)
section
variable {P : Program} {w : World} {K : PySem.W.Frag} {mg : Str → Option Value} {base : Heap} {CF CD CC CR : Addr}
-- def call_carry(desk, given):
--     row = given[1]
--     states = desk.field.carried(given[0], row)
--     return [1 if len(states) == len(row) else 0] + counted(states)
-- slots 0:desk 1:given 2:row 3:states
abbrev scall_carry : Stmt := top 86
theorem sccall_carry : FnScope ["desk", "given", "row", "states"] ["desk", "given"] (defScope scall_carry) := ⟨rfl, rfl, rfl, by decide +kernel, rfl, by decide +kernel, by decide +kernel⟩
def rA (i : Nat) (cs : List CV) : List Nat := match cs[i]? with
  | some (.inl (.row l)) => l.map Int.toNat
  | _ => []
def okSR (st : Vbenaf.State) (cs : List CV) : Prop := ∃ (k : Nat) (row : List Nat), cs = [cN k, .inl (.row (VbenCore.ints row))] ∧ k < Vbenaf.states st.field ∧ row.length ≤ 60 ∧ ∀ x ∈ row, x < st.field.values.length
def dCarry (st : Vbenaf.State) (cs : List CV) : Except Int (Vbenaf.State × List Int) := .ok (st, (if (Vbenaf.carry st.field (nA 0 cs) (rA 1 cs)).2 = true then 1 else 0) :: Vbenaf.listRow (Vbenaf.carry st.field (nA 0 cs) (rA 1 cs)).1)
theorem ok_call_carry {f : Addr} {fd : FuncData} (F : Fun K "call_carry" "call_carry" scall_carry f fd) (T : TxtC K mg CD CF) (m_Field_carried : Met P w K mg base CX0 4 CF "carried" (spF_carried K CF)) (c_counted : Cal P w K mg base CX0 1 "counted" sp_counted) : FnOk P w K mg base (L2.CX P w) 9 f fd ["desk", "given"] (sp_doer K CD CC CF CR okSR dCarry) := by
  refine F.okX sccall_carry (fun vs H Q E h => ?_) (fun cdv A outer s H vs Q E hr h => ?_)
  · obtain ⟨a, l, nl, ys, vs', st, cs, rfl, _⟩ := h
    rfl
  · obtain ⟨a, l, nl, ys, vs', st, cs, rfl, hnl, hd, hl, hcv, ⟨k, row, rfl, hk, h60, hrow⟩, ret⟩ := h
    refine ⟨_, (pss_cons (ps_set (i := 2) sccall_carry.nd rfl (Or.inl rfl) (pix K (pv 1) pe_int))
      (pss_cons (ps_set (i := 3) sccall_carry.nd rfl (Or.inl rfl) (pmt m_Field_carried hr (by decide) (pfld K (pv 0)) (pa_cons (pix K (pv 1) pe_int) (pa_cons (pv 2) pa_nil))))
      (pss_one (ps_ret (pe_op op_cat (pe_lst (pa_cons (pe_ifExp (pt_cmpR op_eq (plen K T.len (pv 3)) (plen K T.len (pv 2)) (nomark _)) pe_int pe_int) pa_nil)) (pc c_counted hr (by decide) (by rfl) (pa_cons (pv 3) pa_nil))))))), ?_⟩
    obtain ⟨dx, lf, lc, ha, hF, _⟩ := hd.ex
    replace ha := del_ex _ _ _ _ ha
    replace hF := hF.ex (del_ex _ _)
    obtain ⟨v1, v2, rfl, hv1, p, rfl, hp⟩ := cvs2 hcv
    have er : (VbenCore.ints row).map Int.toNat = row := by
      unfold VbenCore.ints
      rw [List.map_map]
      exact List.map_id' row
    replace ret : ∀ q H', H q = none → ExT H H' → DeskAt CD CC CF (del H' nl) a st → H' q = some (.lst (vints ((if (Vbenaf.carry st.field k ((VbenCore.ints row).map Int.toNat)).2 = true then 1 else 0) :: Vbenaf.listRow (Vbenaf.carry st.field k ((VbenCore.ints row).map Int.toNat)).1))) → Q (.ref q) H' := ret
    rw [er] at ret
    have hpr : H p = some (.lst (vnats row)) := by
      rw [hp]
      unfold vints vnats VbenCore.ints
      rw [List.map_map]
      rfl
    refine q_asg (v := .ref p) (ev_op (ev_var rfl) ev_c (rv_ixL (sq_of hl) rfl)) fun H1 e1 => ?_
    have hF1 := hF.ex e1
    have ha1 := e1 _ _ ha
    obtain ⟨A1, hL⟩ := id hF1
    obtain ⟨hcl, hcw⟩ := NM.carry_len st.field row k
    show tSeq _ _ _ [some (.ref a), some (.ref l), some (.ref p), none] _
    refine q_asgL (xs := vnats (Vbenaf.carry st.field k row).1) (el_mth (ev_fld (ev_var rfl) ha1 T.cD T.nField fD_field) hL.o (fF_no (by decide +kernel)) (ea_two (ev_op (ev_var rfl) ev_c (rv_ixL (sq_of (e1 _ _ hl)) rfl)) (ev_var rfl)) (pL.sp fun H2 e2 => ⟨lf, p, k, row, st.field, by rw [show v1 = _ from hv1], ⟨hd.ok, hF1.ex e2⟩, hk, sq_of ((e1.trans e2) _ _ hpr), by omega, hrow, rfl⟩)) fun q H2 nq e2 hq => ?_
    have e02 := e1.trans e2
    have z := el_counted (te := tVar 3) (σ := [some (.ref a), some (.ref l), some (.ref p), some (.ref q)]) (ev_var rfl) hq (by rw [vnats_len]; omega)
    rw [vnats_len] at z
    have e : vints ((if (Vbenaf.carry st.field k row).2 = true then (1 : Int) else 0) :: Vbenaf.listRow (Vbenaf.carry st.field k row).1) = [.int (if (Vbenaf.carry st.field k row).2 = true then 1 else 0)] ++ (.int ((Vbenaf.carry st.field k row).1.length : Int) :: vnats (Vbenaf.carry st.field k row).1) := by
      rw [← vints_row]
      rfl
    refine s_retL (σ := [some (.ref a), some (.ref l), some (.ref p), some (.ref q)]) (xs := vints ((if (Vbenaf.carry st.field k row).2 = true then (1 : Int) else 0) :: Vbenaf.listRow (Vbenaf.carry st.field k row).1)) ?_ fun u H3 nu e3 hu => ret u H3 (fresh_back e02 nu) (ExT.of (e02.trans e3)) (hd.ex' (Ex.del (e02.trans e3) nl)) hu
    rw [e]
    refine el_catNN (el_lst (ea_one (ev_if (b := decide ((Vbenaf.carry st.field k row).2 = true)) (et_test (ev_is (ev_op (ev_lenE (n := ((Vbenaf.carry st.field k row).1.length : Int)) (ev_var rfl) hq (by rw [vnats_len])) (ev_lenE (n := (row.length : Int)) (ev_var rfl) (e02 _ _ hpr) (by rw [vnats_len])) (rv_eq rfl)) ?_)) (fun hb => ev_is ev_c (by rw [if_pos (of_decide_eq_true hb)])) (fun hb => ev_is ev_c (by rw [if_neg (of_decide_eq_false hb)])))) (Nat.le_of_ble_eq_true rfl)) z (by simp [vnats]; omega)
    congr 1
    rw [Bool.eq_iff_iff, decide_eq_true_eq, decide_eq_true_eq, V.int.injEq, hcw]
    omega
end
end N
set_option Elab.async false
set_option linter.all false
set_option maxRecDepth 100000
set_option maxHeartbeats 4000000
namespace N
open PySem PySem.Spec PyProof.Rows L2 Evl
open NM (Thing want thingsOf Fits vI FOk)
section
variable {P : Program} {w : World} {K : PySem.W.Frag} {mg : Str → Option Value} {base : Heap} {CF CFa CD CC CR : Addr}
-- def call_look(desk, given):
--     try:
--         read_field(given[0])
--     except Fault as e:
--         return [1, e.place]
--     return [0]
-- slots 0:desk 1:given
abbrev scall_look : Stmt := top 78
theorem sccall_look : FnScope ["desk", "given"] ["desk", "given"] (defScope scall_look) := ⟨rfl, rfl, rfl, by decide +kernel, rfl, by decide +kernel, by decide +kernel⟩
abbrev NL : List Str := ["desk", "given", "e"]
theorem scL : FnScope NL ["desk", "given"] (defScope scall_look) := ⟨rfl, rfl, rfl, by decide +kernel, rfl, by decide +kernel, by decide +kernel⟩
def okB (_ : Vbenaf.State) (cs : List CV) : Prop := ∃ t : List Nat, cs = [.inl (.row (VbenCore.ints t))] ∧ t.length ≤ 2000 ∧ ∀ c ∈ t, c < 256
def dLook (st : Vbenaf.State) (cs : List CV) : Except Int (Vbenaf.State × List Int) := match Vbenaf.readField (rA 0 cs) with
  | .error p => .ok (st, [1, (p : Int)])
  | .ok _ => .ok (st, [0])
theorem ok_call_look {f : Addr} {fd : FuncData} (F : Fun K "call_look" "call_look" scall_look f fd) (hFa : mg "Fault" = some (.ref CFa)) (xf : XfC K CFa) (xn : PySem.W.findIn K (.ref CFa) "place" = some none) (xe : PySem.W.exmOne K (.ref CFa) (.ref CFa) = some true) (c_read_field : Cal P w K mg base (L2.CX P w) 7 "read_field" (sp_read_field CF CFa)) : FnOk P w K mg base (L2.CX P w) 9 f fd ["desk", "given"] (sp_doer K CD CC CF CR okB dLook) := by
  refine F.okX scL (fun vs H Q E h => ?_) (fun cdv A outer s H vs Q E hr h => ?_)
  · obtain ⟨a, l, nl, ys, vs', st, cs, rfl, _⟩ := h
    rfl
  · obtain ⟨a, l, nl, ys, vs', st, cs, rfl, hnl, hd, hl, hcv, ⟨t, rfl, ht, hb⟩, ret⟩ := h
    obtain ⟨v1, rfl, p, rfl, hp⟩ := cvs1 hcv
    refine ⟨_, (pss_cons (ps_try_as (i := 2) (tb := fun W => tDrop (tCallS (sp_read_field CF CFa) (WE W) (tCons (tOp (rIxL K) (tVar 1) (tC (.int 0))) tNil)))
        (ts := fun a cls d => tRet (tLst (tCons (tC (.int 1)) (tCons (tXfA K a cls d "place" (tVar 2)) tNil)))) (Wout := fun cls d _ H => E cls d H) rfl rfl scL.nd rfl rfl ⟨rfl, by decide, Or.inl hFa⟩ (takes_of rfl rfl rfl rfl)
        (fun W pn xe tk hp => pss_one (ps_expr (pcS c_read_field hr (by decide) tk (by rfl) (pa_cons (pix K (pv 1) pe_int) pa_nil))))
        (fun a oe cls d pn hz hf => pss_one (ps_ret (pe_lst (pa_cons pe_int (pa_cons (pe_xfA hz hf (pv 2)) pa_nil))))))
      (pss_one (ps_ret (pe_lst (pa_cons pe_int pa_nil))))), ?_⟩
    have er : (VbenCore.ints t).map Int.toNat = t := by
      unfold VbenCore.ints
      rw [List.map_map]
      exact List.map_id' t
    have hpr : H p = some (.lst (vnats t)) := by
      rw [hp]
      unfold vints vnats VbenCore.ints
      rw [List.map_map]
      rfl
    replace ret : match (match Vbenaf.readField ((VbenCore.ints t).map Int.toNat) with
      | .error p => .ok (st, [1, (p : Int)])
      | .ok _ => .ok (st, [0]) : Except Int (Vbenaf.State × List Int)) with
      | .ok (st', ans) => ∀ q H', H q = none → ExT H H' → DeskAt CD CC CF (del H' nl) a st' → H' q = some (.lst (vints ans)) → Q (.ref q) H'
      | .error n => RefA K CR n H E := ret
    rw [er] at ret
    refine go_callS (σ := [some (.ref a), some (.ref l), none]) (ea_one (ev_op (ev_var rfl) ev_c (rv_ixL (sq_of hl) rfl))) fun H1 e1 => ⟨p, t, rfl, e1 _ _ hpr, ht, hb, ?_⟩
    cases hrf : Vbenaf.readField t with
    | ok x =>
      rw [hrf] at ret
      intro q H2 nq e2 okx hF
      have e02 := e1.trans e2
      refine s_retL (σ := [some (.ref a), some (.ref l), none]) (xs := vints [0]) (el_lst (ea_one ev_c) (Nat.le_of_ble_eq_true rfl)) fun u H3 nu e3 hu => ret u H3 (fresh_back e02 nu) (ExT.of (e02.trans e3)) (hd.ex' (Ex.del (e02.trans e3) nl)) hu
    | error n =>
      rw [hrf] at ret
      intro d H2 nd e2 hxd
      have e02 := e1.trans e2
      refine ⟨true, xe, fun _ a0 na => ?_, fun z => by cases z⟩
      refine ⟨CFa, xf, xn, _, rfl, rfl, rfl, d, _, .int (n : Int), rfl, hxd, ?_, sz_of (Nat.le_of_ble_eq_true rfl), fun q nq => ?_⟩
      · exact lk_here
      · have eQ := e02.trans (Ex.new (o := .lst [.int 1, .int (n : Int)]) nq)
        exact ret q _ (fresh_back e02 nq) (ExT.of eQ) (hd.ex' (Ex.del eQ nl)) upd_same
end
end N
set_option Elab.async false
set_option linter.all false
set_option maxRecDepth 100000
set_option maxHeartbeats 4000000
namespace N
open PySem PySem.Spec PyProof.Rows L2 Evl
open NM (Thing want thingsOf Fits vI FOk)
theorem text_len {fl : Fld} (ok : FOk fl) : (Vbenaf.fieldText fl).length ≤ 12000 := by
  have n64 := ok.n64
  have h6 := ok.h6
  have h8 := ok.v8
  have l30 := ok.ll
  -- how long the lines are
  have len1 : ∀ x ∈ Vbenaf.W "values" :: fl.values, x.length ≤ 12 := fun x hx => by
    rcases List.mem_cons.mp hx with rfl | hx
    · decide +kernel
    · exact name_len (ok.nm x hx).1
  have lenL : ∀ y : Nat × Nat, ∀ x ∈ [Vbenaf.W "let", Vbenaf.nameOf fl y.1, Vbenaf.nameOf fl y.2], x.length ≤ 12 := fun y x hx => by
    rcases List.mem_cons.mp hx with rfl | hx
    · decide +kernel
    rcases List.mem_cons.mp hx with rfl | hx
    · exact nameOf_len ok _
    rw [List.mem_singleton] at hx
    subst hx
    exact nameOf_len ok _
  have lenJ : ∀ {n : Nat} (l : List (List Nat)), (∀ x ∈ l, x.length ≤ 12) → l.length ≤ n → (VbenCore.between [32] l).length ≤ n * 13 := fun {n} l h hn => by
    have z1 := between_len [32] l
    have z2 := lens_le h
    have z3 : ([32] : List Nat).length = 1 := rfl
    rw [z3] at z1
    have : l.length * 12 ≤ n * 12 := Nat.mul_le_mul_right _ hn
    omega
  have lenA : ∀ s v, (Vbenaf.atText fl s v).length ≤ 117 := fun s v => by
    refine lenJ (n := 9) _ (fun x hx => ?_) ?_
    · rcases List.mem_cons.mp hx with rfl | hx
      · decide +kernel
      rcases List.mem_append.mp hx with hx | hx
      · obtain ⟨i, hi, rfl⟩ := List.mem_map.mp hx
        have hi2 := List.mem_range.mp (List.mem_filter.mp hi).1
        rw [num_len (by omega)]
        decide
      rcases List.mem_cons.mp hx with rfl | hx
      · decide +kernel
      rw [List.mem_singleton] at hx
      subst hx
      exact nameOf_len ok v
    · have : ((List.range fl.holes).filter (Vbenaf.bit s)).length ≤ 6 := Nat.le_trans (List.length_filter_le _ _) (by rw [List.length_range]; exact h6)
      simp only [List.length_cons, List.length_append, List.length_map, List.length_nil]
      omega
  have lenAll : ∀ x ∈ linesOf fl, x.length ≤ 117 := fun x hx => by
    unfold linesOf at hx
    rcases List.mem_cons.mp hx with rfl | hx
    · refine Nat.le_trans (lenJ (n := 2) _ (fun x hx => ?_) (Nat.le_refl _)) (by decide)
      rcases List.mem_cons.mp hx with rfl | hx
      · decide +kernel
      rw [List.mem_singleton] at hx
      subst hx
      rw [num_len (by omega)]
      decide
    rcases List.mem_cons.mp hx with rfl | hx
    · exact lenJ (n := 9) _ len1 (by rw [List.length_cons]; omega)
    rcases List.mem_append.mp hx with hx | hx
    · obtain ⟨y, _, rfl⟩ := List.mem_map.mp hx
      exact Nat.le_trans (lenJ (n := 3) _ (lenL y) (Nat.le_refl _)) (by decide)
    · obtain ⟨s, _, hs⟩ := List.mem_filterMap.mp hx
      cases hv : Vbenaf.valueOf fl s with
      | none => rw [hv] at hs; cases hs
      | some v =>
        rw [hv] at hs
        rw [← Option.some.inj hs]
        exact lenA s v
  have lenN : (linesOf fl).length ≤ 100 := by
    unfold linesOf
    have : ((List.range (Vbenaf.states fl)).filterMap fun s => (Vbenaf.valueOf fl s).map fun v => Vbenaf.atText fl s v).length ≤ Vbenaf.states fl := Nat.le_trans (List.length_filterMap_le _ _) (by rw [List.length_range]; exact Nat.le_refl _)
    simp only [List.length_cons, List.length_append, List.length_map]
    omega
  have z1 := lens_le lenAll
  have z2 : (linesOf fl).length * 117 ≤ 100 * 117 := Nat.mul_le_mul_right _ lenN
  have z3 := between_len [10] (linesOf fl)
  rw [show ([10] : List Nat).length = 1 from rfl] at z3
  rw [fieldText_lines]
  omega
section
variable {P : Program} {w : World} {K : PySem.W.Frag} {mg : Str → Option Value} {base : Heap} {CF CD CC CR : Addr}
-- def call_text(desk, given):
--     return [0] + one_text(desk.field)
-- slots 0:desk 1:given
abbrev scall_text : Stmt := top 79
theorem sccall_text : FnScope ["desk", "given"] ["desk", "given"] (defScope scall_text) := ⟨rfl, rfl, rfl, by decide +kernel, rfl, by decide +kernel, by decide +kernel⟩
def dText (st : Vbenaf.State) (_ : List CV) : Except Int (Vbenaf.State × List Int) := .ok (st, 0 :: VbenCore.ints (Vbenaf.fieldText st.field))
theorem ok_call_text {f : Addr} {fd : FuncData} (F : Fun K "call_text" "call_text" scall_text f fd) (T : TxtC K mg CD CF) (c_one_text : Cal P w K mg base CX0 2 "one_text" (sp_one_text CF)) : FnOk P w K mg base (L2.CX P w) 9 f fd ["desk", "given"] (sp_doer K CD CC CF CR okNo dText) := by
  refine F.okX sccall_text (fun vs H Q E h => ?_) (fun cdv A outer s H vs Q E hr h => ?_)
  · obtain ⟨a, l, nl, ys, vs', st, cs, rfl, _⟩ := h
    rfl
  · obtain ⟨a, l, nl, ys, vs', st, cs, rfl, hnl, hd, hl, hcv, rfl, ret⟩ := h
    refine ⟨_, (pss_one (ps_ret (pe_op op_cat (pe_lst (pa_cons pe_int pa_nil)) (pc c_one_text hr (by decide) (by rfl) (pa_cons (pfld K (pv 0)) pa_nil))))), ?_⟩
    obtain ⟨dx, lf, lc, ha, hF, _⟩ := hd.ex
    replace ha := del_ex _ _ _ _ ha
    replace hF := hF.ex (del_ex _ _)
    have tl := text_len hd.ok
    have z : EvL (tCall (sp_one_text CF) [] E0 (tCons (tFld K (tVar 0) "field") tNil)) [some (.ref a), some (.ref l)] H (vnats (Vbenaf.fieldText st.field)) := fun H1 e1 Q1 k =>
      (ev_fld (K := K) (ev_var rfl) ha T.cD T.nField fD_field : Ev (tFld K (tVar 0) "field") [some (.ref a), some (.ref l)] H (.ref lf)) H1 e1 _ fun H2 e2 => sp_nil (sp := sp_one_text CF) (vs := [.ref lf]) ⟨_, ⟨lf, st.field, _, _, rfl, hF.ex (e1.trans e2), hd.ok, rfl⟩, fun q H3 nq e3 hq => k q H3 (fresh_back e2 nq) (e2.trans e3) hq⟩
    refine s_retL (xs := vints (0 :: VbenCore.ints (Vbenaf.fieldText st.field))) ?_ fun q H1 nq e1 hq => ret q H1 nq (ExT.of e1) (hd.ex' (Ex.del e1 nl)) hq
    have e : vints (0 :: VbenCore.ints (Vbenaf.fieldText st.field)) = [.int 0] ++ vnats (Vbenaf.fieldText st.field) := by
      unfold vints vnats VbenCore.ints
      rw [List.map_cons, List.map_map]
      rfl
    rw [e]
    exact el_catNN (el_lst (ea_one ev_c) (Nat.le_of_ble_eq_true rfl)) z (by rw [vnats_len]; simp; omega)
end
end N
set_option Elab.async false
set_option linter.all false
set_option maxRecDepth 100000
set_option maxHeartbeats 4000000
namespace N
open PySem PySem.Spec PyProof.Rows L2 Evl
open NM (Thing want thingsOf Fits vI FOk)
/-- a class of refusals, as the suite needs it -/
structure RC (K : PySem.W.Frag) (CR C : Addr) : Prop where
  xf : XfC K C
  xn : PySem.W.findIn K (.ref C) "number" = some none
  xe : PySem.W.exmOne K (.ref C) (.ref CR) = some true
theorem RC.ref {K : PySem.W.Frag} {CR C : Addr} {n : Int} {H : Hp} {E : XK} (r : RC K CR C) (h : RefA K CR n H E) : Ref C n H E := fun d H' nd e hx => h C d _ H' r.xf r.xn r.xe nd e hx lk_here
theorem RC.flt {K : PySem.W.Frag} {CR C : Addr} {p : Nat} {H : Hp} {E : XK} (r : RC K CR C) (h : RefA K CR (-1000 - (p : Int)) H E) : FltO C H E p := fun d H' nd e hx => h C d _ H' r.xf r.xn r.xe nd e hx ((lk_past (by decide +kernel)).trans lk_here)
/-- a number of a range; of a range, and one of so many -/
def rngC (n lo hi : Int) : Except Int (Option Fld) := if n < lo ∨ hi < n then .error (-3) else .ok none
def numC (n g c : Int) : Except Int (Option Fld) := if n < 0 ∨ g < n then .error (-3) else if c ≤ n then .error (-5) else .ok none
def chk1 (f : Fld) (kd : List Nat) : Thing → Except Int (Option Fld)
  | .num n => if kd = Vbenaf.W "longest" then rngC n 1 3 else if kd = Vbenaf.W "hole count" then rngC n 1 3 else if kd = Vbenaf.W "value count" then rngC n 2 8
    else if kd = Vbenaf.W "state" then numC n 63 (Vbenaf.states f : Int) else if kd = Vbenaf.W "value" then numC n 7 (f.values.length : Int) else numC n 5 (f.holes : Int)
  | .row l => if kd = Vbenaf.W "row" then (if l.length ≤ 60 ∧ l.all (fun v => decide (0 ≤ v) && decide (v < (f.values.length : Int))) = true then .ok none else .error (-4))
    else if kd = Vbenaf.W "labels" then (if l.length = Vbenaf.states f ∧ l.all (fun v => decide (-1000 ≤ v) && decide (v ≤ 1000)) = true then .ok none else .error (-4))
    else if l.all (fun c => decide (0 ≤ c) && decide (c ≤ 255)) = true then (if kd = Vbenaf.W "text" then (match Vbenaf.readField (l.map Int.toNat) with
      | .ok x => .ok (some x)
      | .error p => .error (-1000 - (p : Int))) else .ok none)
    else .error (-1)
theorem chk1_n {f : Fld} {kd : List Nat} {n : Int} : chk1 f kd (.num n) = if kd = Vbenaf.W "longest" then rngC n 1 3 else if kd = Vbenaf.W "hole count" then rngC n 1 3 else if kd = Vbenaf.W "value count" then rngC n 2 8
    else if kd = Vbenaf.W "state" then numC n 63 (Vbenaf.states f : Int) else if kd = Vbenaf.W "value" then numC n 7 (f.values.length : Int) else numC n 5 (f.holes : Int) := rfl
theorem chk1_r {f : Fld} {kd : List Nat} {l : List Int} : chk1 f kd (.row l) = if kd = Vbenaf.W "row" then (if l.length ≤ 60 ∧ l.all (fun v => decide (0 ≤ v) && decide (v < (f.values.length : Int))) = true then .ok none else .error (-4))
    else if kd = Vbenaf.W "labels" then (if l.length = Vbenaf.states f ∧ l.all (fun v => decide (-1000 ≤ v) && decide (v ≤ 1000)) = true then .ok none else .error (-4))
    else if l.all (fun c => decide (0 ≤ c) && decide (c ≤ 255)) = true then (if kd = Vbenaf.W "text" then (match Vbenaf.readField (l.map Int.toNat) with
      | .ok x => .ok (some x)
      | .error p => .error (-1000 - (p : Int))) else .ok none)
    else .error (-1) := rfl
def okT1 (kd : List Nat) (t : Thing) : Prop := (∃ n, t = .num n ∧ (kd = Vbenaf.W "longest" ∨ kd = Vbenaf.W "hole count" ∨ kd = Vbenaf.W "value count" ∨ kd = Vbenaf.W "state" ∨ kd = Vbenaf.W "value" ∨ kd = Vbenaf.W "hole"))
  ∨ ∃ l, t = .row l ∧ l.length ≤ 2000 ∧ (kd = Vbenaf.W "row" ∨ kd = Vbenaf.W "labels" ∨ kd = Vbenaf.W "codes" ∨ kd = Vbenaf.W "text")
section
variable {P : Program} {w : World} {K : PySem.W.Frag} {mg : Str → Option Value} {base : Heap} {CF CFa CO CN CB CL CR aR : Addr}
structure TxtK2 (K : PySem.W.Frag) (w : World) (mg : Str → Option Value) (CF aR : Addr) : Prop extends Txt K mg CF where
  GREATEST_STATE : gi mg "GREATEST_STATE" 63
  GREATEST_VALUE : gi mg "GREATEST_VALUE" 7
  GREATEST_HOLE : gi mg "GREATEST_HOLE" 5
  RANGES : mg "RANGES" = some (.ref aR)
  r1 : KTwo K w aR (S (Vbenaf.W "longest")) 1 3
  r2 : KTwo K w aR (S (Vbenaf.W "hole count")) 1 3
  r3 : KTwo K w aR (S (Vbenaf.W "value count")) 2 8
  rn : ∀ z ∈ [Vbenaf.W "state", Vbenaf.W "value", Vbenaf.W "hole", Vbenaf.W "row", Vbenaf.W "labels", Vbenaf.W "codes", Vbenaf.W "text"], KNo K w aR (S z)
theorem go_ifT {tt : TT} {ta tb : TE} {σ : L2.St} {H : Hp} {Q : VK} {b : Bool} (h : EvT tt σ H b) (h1 : b = true → ∀ H1, Ex H H1 → ta σ H1 Q) (h2 : b = false → ∀ H1, Ex H H1 → tb σ H1 Q) : tIf tt ta tb σ H Q := h H (Ex.refl _) _ fun H1 e1 => by
  cases b with
  | true => exact h1 rfl H1 e1
  | false => exact h2 rfl H1 e1
-- def checked(field, kind, thing):
--     if kind in RANGES:
--         return checked_range(thing, RANGES[kind][0], RANGES[kind][1])
--     if kind == 'state':
--         return checked_number(thing, GREATEST_STATE, field.state_count())
--     if kind == 'value':
--         return checked_number(thing, GREATEST_VALUE, len(field.names))
--     if kind == 'hole':
--         return checked_number(thing, GREATEST_HOLE, field.holes)
--     if kind == 'row':
--         return checked_row(thing, len(field.names))
--     if kind == 'labels':
--         return checked_labels(thing, field.state_count())
--     codes = checked_bytes(thing)
--     return read_field(codes) if kind == 'text' else codes
-- slots 0:field 1:kind 2:thing 3:codes
abbrev schecked : Stmt := top 55
theorem scchecked : FnScope ["field", "kind", "thing", "codes"] ["field", "kind", "thing"] (defScope schecked) := ⟨rfl, rfl, rfl, by decide +kernel, rfl, by decide +kernel, by decide +kernel⟩
/-- a number of a kind that hangs on no field -/
theorem chk_rng {f : Fld} {kd : List Nat} (T : TxtK2 K w mg CF aR) (h : kd = Vbenaf.W "longest" ∨ kd = Vbenaf.W "hole count" ∨ kd = Vbenaf.W "value count") : ∃ lo hi, KTwo K w aR (S kd) lo hi ∧ ∀ n, chk1 f kd (.num n) = rngC n lo hi := by
  rcases h with rfl | rfl | rfl
  · exact ⟨1, 3, T.r1, fun n => chk1_n.trans (if_pos rfl)⟩
  · exact ⟨1, 3, T.r2, fun n => chk1_n.trans ((if_neg (by decide +kernel)).trans (if_pos rfl))⟩
  · exact ⟨2, 8, T.r3, fun n => chk1_n.trans ((if_neg (by decide +kernel)).trans ((if_neg (by decide +kernel)).trans (if_pos rfl)))⟩
theorem chk_num {f : Fld} {kd : List Nat} {n : Int} (h : ¬ (kd = Vbenaf.W "longest" ∨ kd = Vbenaf.W "hole count" ∨ kd = Vbenaf.W "value count")) : chk1 f kd (.num n) = (if kd = Vbenaf.W "state" then numC n 63 (Vbenaf.states f : Int) else if kd = Vbenaf.W "value" then numC n 7 (f.values.length : Int) else numC n 5 (f.holes : Int)) :=
  chk1_n.trans <| (if_neg fun z => h (.inl z)).trans ((if_neg fun z => h (.inr (.inl z))).trans (if_neg fun z => h (.inr (.inr z))))
/-- the number is checked -/
theorem go_num {σ : L2.St} {H : Hp} {Q : VK} {E : L2.St → XK} {ta : TA} {n g c : Int} (rO : RC K CR CO) (rN : RC K CR CN) (ha : EvA ta σ H [.int n, .int g, .int c]) (hR : match numC n g c with
    | .ok none => ∀ H', Ex H H' → Q (.int n) H'
    | .ok (some x) => True
    | .error m => RefA K CR m H (E σ)) : tCallS (sp_checked_number CO CN) E ta σ H Q := by
  refine go_callS ha fun H2 e2 => ⟨n, g, c, rfl, ?_⟩
  unfold numC at hR
  by_cases c1 : n < 0 ∨ g < n
  · rw [if_pos c1] at hR ⊢
    exact rO.ref (RefA.mono hR e2)
  · rw [if_neg c1] at hR ⊢
    by_cases c2 : c ≤ n
    · rw [if_pos c2] at hR ⊢
      exact rN.ref (RefA.mono hR e2)
    · rw [if_neg c2] at hR ⊢
      exact fun H3 e3 => hR H3 (e2.trans e3)
theorem ok_checked {f : Addr} {fd : FuncData} (F : Fun K "checked" "checked" schecked f fd) (T : TxtK2 K w mg CF aR) (rO : RC K CR CO) (rN : RC K CR CN) (rB : RC K CR CB) (rL : RC K CR CL) (rF : RC K CR CFa) (m_Field_state_count : Met P w K mg base CX0 1 CF "state_count" (spF_state_count CF)) (c_checked_range : Cal P w K mg base (L2.CX P w) 4 "checked_range" (sp_checked_range CO)) (c_checked_number : Cal P w K mg base (L2.CX P w) 5 "checked_number" (sp_checked_number CO CN)) (c_checked_bytes : Cal P w K mg base (L2.CX P w) 4 "checked_bytes" (sp_checked_bytes CB)) (c_checked_row : Cal P w K mg base (L2.CX P w) 4 "checked_row" (sp_checked_row CL)) (c_checked_labels : Cal P w K mg base (L2.CX P w) 4 "checked_labels" (sp_checked_labels CL)) (c_read_field : Cal P w K mg base (L2.CX P w) 7 "read_field" (sp_read_field CF CFa)) : FnOk P w K mg base (L2.CX P w) 8 f fd ["field", "kind", "thing"] (sp_checked K CF CR okT1 chk1) := by
  refine F.okX scchecked (fun vs H Q E h => ?_) (fun cdv A outer s H vs Q E hr h => ?_)
  · obtain ⟨lf, x, rk, bs, kd, t, v, rfl, _⟩ := h
    rfl
  · obtain ⟨lf, x, rk, bs, kd, t, v, rfl, hF, ok, hth, hkt, hR⟩ := h
    refine ⟨_, (pss_cons (ps_if (pinK K w (pv 1) (pgr T.RANGES))
        (pss_one (ps_ret (pcS c_checked_range hr (by decide) (takes_of rfl rfl rfl rfl) (by rfl) (pa_cons (pv 2) (pa_cons (pixt K (pixd K w (pgr T.RANGES) (pv 1)) pe_int) (pa_cons (pixt K (pixd K w (pgr T.RANGES) (pv 1)) pe_int) pa_nil))))))
        pss_nil)
      (pss_cons (ps_if (pt_cmpR op_eq (pv 1) pe_str (nomark _))
        (pss_one (ps_ret (pcS c_checked_number hr (by decide) (takes_of rfl rfl rfl rfl) (by rfl) (pa_cons (pv 2) (pa_cons (pgi T.GREATEST_STATE) (pa_cons (pmt0 m_Field_state_count hr (by decide) (pv 0)) pa_nil))))))
        pss_nil)
      (pss_cons (ps_if (pt_cmpR op_eq (pv 1) pe_str (nomark _))
        (pss_one (ps_ret (pcS c_checked_number hr (by decide) (takes_of rfl rfl rfl rfl) (by rfl) (pa_cons (pv 2) (pa_cons (pgi T.GREATEST_VALUE) (pa_cons (plen K T.len (pfld K (pv 0))) pa_nil))))))
        pss_nil)
      (pss_cons (ps_if (pt_cmpR op_eq (pv 1) pe_str (nomark _))
        (pss_one (ps_ret (pcS c_checked_number hr (by decide) (takes_of rfl rfl rfl rfl) (by rfl) (pa_cons (pv 2) (pa_cons (pgi T.GREATEST_HOLE) (pa_cons (pfld K (pv 0)) pa_nil))))))
        pss_nil)
      (pss_cons (ps_if (pt_cmpR op_eq (pv 1) pe_str (nomark _))
        (pss_one (ps_ret (pcS c_checked_row hr (by decide) (takes_of rfl rfl rfl rfl) (by rfl) (pa_cons (pv 2) (pa_cons (plen K T.len (pfld K (pv 0))) pa_nil)))))
        pss_nil)
      (pss_cons (ps_if (pt_cmpR op_eq (pv 1) pe_str (nomark _))
        (pss_one (ps_ret (pcS c_checked_labels hr (by decide) (takes_of rfl rfl rfl rfl) (by rfl) (pa_cons (pv 2) (pa_cons (pmt0 m_Field_state_count hr (by decide) (pv 0)) pa_nil)))))
        pss_nil)
      (pss_cons (ps_set (i := 3) scchecked.nd rfl (Or.inl rfl) (pcS c_checked_bytes hr (by decide) (takes_of rfl rfl rfl rfl) (by rfl) (pa_cons (pv 2) pa_nil)))
      (pss_one (ps_ret (pe_ifExp (pt_cmpR op_eq (pv 1) pe_str (nomark _)) (pcS c_read_field hr (by decide) (takes_of rfl rfl rfl rfl) (by rfl) (pa_cons (pv 3) pa_nil)) (pv 3))))))))))), ?_⟩
    obtain ⟨A1, hL⟩ := id hF
    -- kinds of a range
    by_cases hrg : kd = Vbenaf.W "longest" ∨ kd = Vbenaf.W "hole count" ∨ kd = Vbenaf.W "value count"
    · obtain ⟨lo, hi, k2, hck⟩ := chk_rng (f := x) T hrg
      refine q_when (b := true) (et_test (ev_op (ev_var rfl) ev_c (rv_kyes k2))) (fun _ H1 e1 => ?_) (fun h => by cases h)
      obtain ⟨n, rfl⟩ : ∃ n, t = .num n := by
        rcases hkt with ⟨n, h, _⟩ | ⟨l, _, _, h⟩
        · exact ⟨n, h⟩
        · exfalso
          rcases hrg with h1 | h1 | h1 <;> rcases h with h | h | h | h <;> exact absurd (h1.symm.trans h) (by decide +kernel)
      obtain rfl : v = .int n := hth
      rw [hck] at hR
      unfold rngC at hR
      refine go_callS (σ := [some (.ref lf), some (.str (S kd)), some (.int n), none]) (vs := [.int n, .int lo, .int hi]) (ea_cons (ev_var rfl) (ea_two (ev_kix k2 ev_c (ev_var rfl) ev_c rfl) (ev_kix k2 ev_c (ev_var rfl) ev_c rfl))) fun H2 e2 => ⟨n, lo, hi, rfl, ?_⟩
      have e02 := e1.trans e2
      by_cases c1 : n < lo ∨ hi < n
      · rw [if_pos c1] at hR ⊢
        exact rO.ref (RefA.mono hR e02)
      · rw [if_neg c1] at hR ⊢
        exact fun H3 e3 => hR H3 (e02.trans e3)
    have hno : KNo K w aR (S kd) := by
      refine T.rn kd ?_
      rcases hkt with ⟨n, _, h⟩ | ⟨l, _, _, h⟩
      · rcases h with h | h | h | h | h | h
        · exact absurd (.inl h) hrg
        · exact absurd (.inr (.inl h)) hrg
        · exact absurd (.inr (.inr h)) hrg
        all_goals simp [h]
      · rcases h with h | h | h | h <;> simp [h]
    refine q_when (b := false) (et_test (ev_op (ev_var rfl) ev_c (rv_kno hno))) (fun h => by cases h) (fun _ H0 e0 => ?_)
    refine q_when (b := decide (kd = Vbenaf.W "state")) (et_test (ev_is (ev_op (ev_var rfl) ev_c (rv_eq rfl)) (bl_word _ _))) (fun hb H1 e1 => ?_) (fun hb1 H1 e1 => ?_)
    · have hk := of_decide_eq_true hb
      rcases hkt with ⟨n, rfl, _⟩ | ⟨l, _, _, h | h | h | h⟩
      · obtain rfl : v = .int n := hth
        have e01 := e0.trans e1
        have hF1 := hF.ex e01
        rw [chk_num hrg, if_pos hk] at hR
        refine go_num (σ := [some (.ref lf), some (.str (S kd)), some (.int n), none]) (n := n) (g := 63) (c := (Vbenaf.states x : Int)) rO rN (ea_cons (ev_var rfl) (ea_two ev_c (ev_mth (ev_var rfl) (e01 _ _ hL.o) (fF_no (by decide +kernel)) ea_nil (pV.sp fun H2 e2 => ⟨lf, x, rk, bs, rfl, hF1.ex e2, ok, rfl⟩)))) ?_
        cases hc : numC n 63 (Vbenaf.states x : Int) with
        | error m => rw [hc] at hR; exact RefA.mono hR e01
        | ok o => cases o with
          | none => rw [hc] at hR; exact fun H3 e3 => hR H3 (e01.trans e3)
          | some _ => trivial
      all_goals exact absurd (hk.symm.trans h) (by decide +kernel)
    have hks := of_decide_eq_false hb1
    have e01 := e0.trans e1
    refine q_when (b := decide (kd = Vbenaf.W "value")) (et_test (ev_is (ev_op (ev_var rfl) ev_c (rv_eq rfl)) (bl_word _ _))) (fun hb H2 e2 => ?_) (fun hb2 H2 e2 => ?_)
    · have hk := of_decide_eq_true hb
      have e02 := e01.trans e2
      rcases hkt with ⟨n, rfl, _⟩ | ⟨l, _, _, h | h | h | h⟩
      · obtain rfl : v = .int n := hth
        rw [chk_num hrg, if_neg hks, if_pos hk] at hR
        refine go_num (σ := [some (.ref lf), some (.str (S kd)), some (.int n), none]) (n := n) (g := 7) (c := (x.values.length : Int)) rO rN (ea_cons (ev_var rfl) (ea_two ev_c (ev_lenE (ev_fld (ev_var rfl) (e02 _ _ hL.o) T.cF T.nNames fF_names) (e02 _ _ hL.n) (vstrs_len _)))) ?_
        cases hc : numC n 7 (x.values.length : Int) with
        | error m => rw [hc] at hR; exact RefA.mono hR e02
        | ok o => cases o with
          | none => rw [hc] at hR; exact fun H3 e3 => hR H3 (e02.trans e3)
          | some _ => trivial
      all_goals exact absurd (hk.symm.trans h) (by decide +kernel)
    have hkv := of_decide_eq_false hb2
    have e02 := e01.trans e2
    refine q_when (b := decide (kd = Vbenaf.W "hole")) (et_test (ev_is (ev_op (ev_var rfl) ev_c (rv_eq rfl)) (bl_word _ _))) (fun hb H3 e3 => ?_) (fun hb2 H3 e3 => ?_)
    · have hk := of_decide_eq_true hb
      have e03 := e02.trans e3
      rcases hkt with ⟨n, rfl, _⟩ | ⟨l, _, _, h | h | h | h⟩
      · obtain rfl : v = .int n := hth
        rw [chk_num hrg, if_neg hks, if_neg hkv] at hR
        refine go_num (σ := [some (.ref lf), some (.str (S kd)), some (.int n), none]) (n := n) (g := 5) (c := (x.holes : Int)) rO rN (ea_cons (ev_var rfl) (ea_two ev_c (ev_fld (ev_var rfl) (e03 _ _ hL.o) T.cF T.nHoles fF_holes))) ?_
        cases hc : numC n 5 (x.holes : Int) with
        | error m => rw [hc] at hR; exact RefA.mono hR e03
        | ok o => cases o with
          | none => rw [hc] at hR; exact fun H3 e3 => hR H3 (e03.trans e3)
          | some _ => trivial
      all_goals exact absurd (hk.symm.trans h) (by decide +kernel)
    have hkh := of_decide_eq_false hb2
    have e03 := e02.trans e3
    obtain ⟨l, rfl, hl2, hkd⟩ : ∃ l, t = .row l ∧ l.length ≤ 2000 ∧ (kd = Vbenaf.W "row" ∨ kd = Vbenaf.W "labels" ∨ kd = Vbenaf.W "codes" ∨ kd = Vbenaf.W "text") := by
      rcases hkt with ⟨n, _, h⟩ | h
      · exfalso
        rcases h with h | h | h | h | h | h
        · exact hrg (.inl h)
        · exact hrg (.inr (.inl h))
        · exact hrg (.inr (.inr h))
        · exact hks h
        · exact hkv h
        · exact hkh h
      · exact h
    obtain ⟨p, rfl, hp⟩ := hth
    refine q_when (b := decide (kd = Vbenaf.W "row")) (et_test (ev_is (ev_op (ev_var rfl) ev_c (rv_eq rfl)) (bl_word _ _))) (fun hb H4 e4 => ?_) (fun hb3 H4 e4 => ?_)
    · have hk := of_decide_eq_true hb
      have e04 := e03.trans e4
      refine go_callS (σ := [some (.ref lf), some (.str (S kd)), some (.ref p), none]) (vs := [.ref p, .int (x.values.length : Int)]) (ea_two (ev_var rfl) (ev_lenE (ev_fld (ev_var rfl) (e04 _ _ hL.o) T.cF T.nNames fF_names) (e04 _ _ hL.n) (vstrs_len _))) fun H5 e5 => ⟨p, l, x.values.length, rfl, (e04.trans e5) _ _ hp, ?_⟩
      have e05 := e04.trans e5
      have ec : chk1 x kd (.row l) = (if l.length ≤ 60 ∧ l.all (fun v => decide (0 ≤ v) && decide (v < (x.values.length : Int))) = true then .ok none else .error (-4)) := chk1_r.trans (if_pos hk)
      rw [ec] at hR
      by_cases c1 : l.length ≤ 60 ∧ l.all (fun v => decide (0 ≤ v) && decide (v < (x.values.length : Int))) = true
      · rw [if_pos c1] at hR ⊢
        exact fun H6 e6 => hR H6 (e05.trans e6)
      · rw [if_neg c1] at hR ⊢
        exact rL.ref (RefA.mono hR e05)
    have hkr := of_decide_eq_false hb3
    have e04 := e03.trans e4
    refine q_when (b := decide (kd = Vbenaf.W "labels")) (et_test (ev_is (ev_op (ev_var rfl) ev_c (rv_eq rfl)) (bl_word _ _))) (fun hb H5 e5 => ?_) (fun hb3 H5 e5 => ?_)
    · have hk := of_decide_eq_true hb
      have e05 := e04.trans e5
      have hF5 := hF.ex e05
      refine go_callS (σ := [some (.ref lf), some (.str (S kd)), some (.ref p), none]) (vs := [.ref p, .int (Vbenaf.states x : Int)]) (ea_two (ev_var rfl) (ev_mth (ev_var rfl) (e05 _ _ hL.o) (fF_no (by decide +kernel)) ea_nil (pV.sp fun H6 e6 => ⟨lf, x, rk, bs, rfl, hF5.ex e6, ok, rfl⟩))) fun H6 e6 => ⟨p, l, Vbenaf.states x, rfl, (e05.trans e6) _ _ hp, ?_⟩
      have e06 := e05.trans e6
      have ec : chk1 x kd (.row l) = (if l.length = Vbenaf.states x ∧ l.all (fun v => decide (-1000 ≤ v) && decide (v ≤ 1000)) = true then .ok none else .error (-4)) := chk1_r.trans ((if_neg hkr).trans (if_pos hk))
      rw [ec] at hR
      by_cases c1 : l.length = Vbenaf.states x ∧ l.all (fun v => decide (-1000 ≤ v) && decide (v ≤ 1000)) = true
      · rw [if_pos c1] at hR ⊢
        exact fun H7 e7 => hR H7 (e06.trans e7)
      · rw [if_neg c1] at hR ⊢
        exact rL.ref (RefA.mono hR e06)
    have hkl := of_decide_eq_false hb3
    have e05 := e04.trans e5
    have ec : chk1 x kd (.row l) = (if l.all (fun c => decide (0 ≤ c) && decide (c ≤ 255)) = true then (if kd = Vbenaf.W "text" then (match Vbenaf.readField (l.map Int.toNat) with
      | .ok x => .ok (some x)
      | .error p => .error (-1000 - (p : Int))) else .ok none) else .error (-1)) := chk1_r.trans ((if_neg hkr).trans (if_neg hkl))
    rw [ec] at hR
    refine go_callS (σ := [some (.ref lf), some (.str (S kd)), some (.ref p), none]) (ea_one (ev_var rfl)) fun H6 e6 => ⟨p, l, rfl, (e05.trans e6) _ _ hp, ?_⟩
    have e06 := e05.trans e6
    by_cases c1 : l.all (fun c => decide (0 ≤ c) && decide (c ≤ 255)) = true
    · rw [if_pos c1] at hR ⊢
      intro H7 e7
      have e07 := e06.trans e7
      have hbytes : ∀ c ∈ l.map Int.toNat, c < 256 := fun c hc => by
        obtain ⟨z, hz, rfl⟩ := List.mem_map.mp hc
        have q := List.all_eq_true.mp c1 z hz
        rw [Bool.and_eq_true, decide_eq_true_eq, decide_eq_true_eq] at q
        omega
      have hvn : vints l = vnats (l.map Int.toNat) := by
        unfold vints vnats
        rw [List.map_map]
        refine List.map_congr_left fun z hz => ?_
        have q := List.all_eq_true.mp c1 z hz
        rw [Bool.and_eq_true, decide_eq_true_eq, decide_eq_true_eq] at q
        show V.int z = V.int ((z.toNat : Nat) : Int)
        rw [Int.toNat_of_nonneg q.1]
      by_cases c2 : kd = Vbenaf.W "text"
      · rw [if_pos c2] at hR
        refine go_ifT (σ := [some (.ref lf), some (.str (S kd)), some (.ref p), some (.ref p)]) (b := true) (et_is (et_test (ev_is (ev_op (ev_var rfl) ev_c (rv_eq rfl)) (bl_word _ _))) (decide_eq_true c2)) (fun _ H8 e8 => ?_) (fun z => by cases z)
        have e08 := e07.trans e8
        refine go_callS (σ := [some (.ref lf), some (.str (S kd)), some (.ref p), some (.ref p)]) (ea_one (ev_var rfl)) fun H9 e9 => ⟨p, l.map Int.toNat, rfl, ?_, by rw [List.length_map]; exact hl2, hbytes, ?_⟩
        · rw [← hvn]
          exact (e08.trans e9) _ _ hp
        · have e09 := e08.trans e9
          cases hrf : Vbenaf.readField (l.map Int.toNat) with
          | ok y =>
            rw [hrf] at hR
            exact fun q Ha nq ea oky hy => hR q Ha (fresh_back e09 nq) (e09.trans ea) (hy.ex (lessL_old e09)) oky
          | error n =>
            rw [hrf] at hR
            exact rF.flt (RefA.mono hR e09)
      · rw [if_neg c2] at hR
        refine go_ifT (σ := [some (.ref lf), some (.str (S kd)), some (.ref p), some (.ref p)]) (b := false) (et_is (et_test (ev_is (ev_op (ev_var rfl) ev_c (rv_eq rfl)) (bl_word _ _))) (decide_eq_false c2)) (fun z => by cases z) (fun _ H8 e8 => ?_)
        exact ⟨_, rfl, hR H8 (e07.trans e8)⟩
    · rw [if_neg c1] at hR ⊢
      exact rB.ref (RefA.mono hR e06)
end
end N
set_option Elab.async false
set_option linter.all false
set_option maxRecDepth 100000
set_option maxHeartbeats 4000000
/-! set(xs) of a list of ints, its members in order. -/
namespace L2
open PySem PySem.Spec PyProof.Rows
section
variable {P : Program} {w : World} {A : Around} {E : Value → Shared → Prop} {s : Shared}
/-- the set that set(..) begins with -/
abbrev noneYet (w : World) : Obj := { cls := .type "set", dict := none, data := .set #[] 0 (.fresh 0 0 (!w.params.followText "set-order")) }
/-- behind set(..) of the whole numbers ns, laid at a state s -/
def Built (w : World) (s : Shared) (ns : List Int) (r : Value) (t : Shared) : Prop := r = .none ∧ ∃ (h' : Heap) (tk c : Nat), t = { s with heap := h', toks := tk } ∧
  SetR w h' s.heap.objs.size (fun j => decide (j ∈ ns)) c ∧ c ≤ ns.length ∧ ∀ b o, s.heap.get? b = some o → h'.get? b = some o
theorem behind {h : Heap} {o : Obj} {a : Addr} (lt : a ≤ h.objs.size) : a < (h.push o).objs.size := Nat.lt_of_lt_of_eq (Nat.lt_succ_of_le lt) (Heap.size_push ..).symm
theorem apart {a b c : Addr} (h1 : a ≠ b) (h2 : a ≠ c) : a ∉ [b, c] := fun hm => match List.mem_cons.mp hm with
  | .inl e => h1 e
  | .inr hm => h2 (List.mem_singleton.mp hm)
/-- item by item from the list into the new set -/
theorem fill_list {B : Around} {l : Addr} {its : Array Value} {ns : List Int} (nh : B.handled = none) (at_ : s.heap.IsList l its) (num : IntsAre its.toList ns) (few : ns.length + 1 < scanBound) :
    wpAny (model P w) B.in1 (Builtin.«set.__init__» { pos := [Value.ref s.heap.objs.size, Value.ref l] })
      (fun fin t => match fin with
        | Fin.done f => wants (Built w s ns) E (Except.ok f) t
        | Fin.again c => c.quiet = true ∧ codeAny (model P w) B c (wants (Built w s ns) E) t)
      (fun e t => wants (Built w s ns) E (Except.error e) t) { s with heap := s.heap.push (noneYet w) } := by
  have z : its.size = ns.length := Array.length_toList.symm.trans (IntsAre.length num)
  have new : (s.heap.push (noneYet w)).get? s.heap.objs.size = some (noneYet w) := Heap.get?_push_size _ rfl
  have isSet : Shared.TypeIs { s with heap := s.heap.push (noneYet w) } (.ref s.heap.objs.size) "set" := ⟨_, new, rfl⟩
  obtain ⟨⟨cl, di, da, sl⟩, here, k1, n, k2⟩ := at_
  cases (k1 : cl = _)
  cases (k2 : da = _)
  have old : l < s.heap.objs.size := Heap.lt_size here
  have here1 := Heap.get?_push_of_some (noneYet w) here
  have list1 : (s.heap.push (noneYet w)).IsList l its := ⟨_, here1, rfl, n, rfl⟩
  have notSet := F.sub_list_set
  have notFz := F.sub_list_frozenset
  have notDict : (Value.type "list" == Value.type "dict") = false := by decide
  unfold Builtin.«set.__init__» noKeywords Builtin.Frozenset.updateFrom
  generalize it : pyIter = walk
  wp_walk
  subst it
  refine wpAny_pyIter_list list1 (wpAny_bind (wpAny_runValue ?_))
  have far : l ≠ (s.heap.push (noneYet w)).objs.size := Nat.ne_of_lt (behind (Nat.le_of_lt old))
  refine set_update_ints ((Walks.list (show B.in1.in1.handled = none by simp [nh]) _ l far its).toS) s.heap.objs.size
    (apart (Nat.ne_of_lt (behind (Nat.le_refl _))) (Nat.ne_of_gt old)) ns z few (fun i v hv => ?_) (its.size - 0) 0 _ (by omega) (Nat.zero_le _) ⟨⟨_, Heap.get?_push_size _ rfl, rfl, rfl⟩, list1.push _⟩
    ⟨0, Nat.le_refl 0, setR_new_at (Heap.get?_push_of_some _ new)⟩ fun t c mv few2 R => ?_
  · obtain ⟨tk, e⟩ := IntsAre.int_at num i v (by rw [Array.getElem?_toList]; exact hv)
    have lt : i < ns.length := z ▸ (Array.getElem?_eq_some_iff.mp hv).1
    exact ⟨ns[i], tk, List.getElem?_eq_getElem lt, by rw [e, List.getD_eq_getElem?_getD, List.getElem?_eq_getElem lt]; rfl⟩
  · obtain ⟨t1, t2, t3, t4, t5⟩ := t
    cases (mv.gens : t2 = _)
    cases (mv.drawn : t3 = _)
    cases (mv.os : t5 = _)
    refine wpAny_pure ?_
    show wpAny _ _ (ret _) _ _ _
    refine wpAny_pure ⟨rfl, t1, t4, c, rfl, R, z ▸ few2, fun b o e => ?_⟩
    have lt : b < s.heap.objs.size := Heap.lt_size e
    exact mv.heap b o (apart (Nat.ne_of_lt lt) (Nat.ne_of_lt (behind (Nat.le_of_lt lt)))) (Heap.get?_push_of_some _ (Heap.get?_push_of_some _ e))
theorem call_set_lstI {l : Addr} {its : Array Value} (ns : List Int) {Q : Value → Shared → Prop} (nh : A.handled = none) (at_ : s.heap.IsList l its) (num : IntsAre its.toList ns) (few : ns.length + 1 < scanBound)
    (q : ∀ t, Built w s ns .none t → Q (.ref s.heap.objs.size) t) : wpAny (model P w) A (call (.type "set") [.ref l]) Q E s := by
  have ⟨_, _, line⟩ := F.called_set.mro
  have made := F.called_set.made
  have sub := F.called_set.sub
  have kind := F.called_set.notType
  have can := F.called_set.canCreate
  have argc := F.typeCall_set_1 (.ref l)
  refine wpAny_call (codeAny_of_tree (show wpAny _ _ (callAny (.type "set") _) _ _ _ from wpAny_pure ⟨Code.quiet_builtin _ (by decide +kernel), codeAny_builtin F.entry_type_call ?_⟩))
  rw [Around.under_plain (weight_type_call_type "set" [.ref l] []) rfl]
  repeat any_goals first | assumption | wp_step
  refine codeAny_mono (code_set_led1 (.ref l) (E := E) (Q₁ := fun v t => v = .ref s.heap.objs.size ∧ t = { s with heap := s.heap.push (noneYet w) }) ⟨rfl, rfl⟩) fun r t hr => ?_
  match r, hr with
  | .error _, y => exact y
  | .ok (.ret _), ⟨e1, e2⟩ =>
    subst e1 e2
    have new : (s.heap.push (noneYet w)).get? s.heap.objs.size = some (noneYet w) := Heap.get?_push_size _ rfl
    have isSet : Shared.TypeIs { s with heap := s.heap.push (noneYet w) } (.ref s.heap.objs.size) "set" := ⟨_, new, rfl⟩
    have look := F.called_set.init.lookup
    have bind := F.called_set.init.bind (.ref s.heap.objs.size)
    repeat any_goals first | assumption | wp_step
    refine codeAny_mono (codeAny_call_builtin (R := wants (Built w s ns) E) F.called_set.init.plain F.entry_set_init (check_set_init_1 isSet ?_)) fun r t hr => ?_
    · exact fill_list (B := A.in1) (by simp [nh]) at_ num few
    · match r, hr with
      | .error _, y => exact y
      | .ok (.ret _), ⟨e, b⟩ =>
        subst e
        repeat any_goals first | assumption | wp_step
        exact q _ ⟨rfl, b⟩
end
theorem nodup_few : ∀ {l L : List Int}, l.Nodup → (∀ x ∈ l, x ∈ L) → l.length ≤ L.length
  | [], _, _, _ => Nat.zero_le _
  | a :: l, L, nd, h => by
    have ha := h a (List.mem_cons_self ..)
    rw [List.nodup_cons] at nd
    have ih := nodup_few (l := l) (L := L.erase a) nd.2 fun x hx => (List.mem_erase_of_ne (fun z => nd.1 (by rw [← z]; exact hx))).mpr (h x (List.mem_cons_of_mem _ hx))
    rw [List.length_erase_of_mem ha] at ih
    have := List.length_pos_of_mem ha
    rw [List.length_cons]
    omega
/-- no more members than any list of them has -/
theorem SetR.few {w : World} {h : Heap} {a : Addr} {S : Int → Bool} {n : Nat} (R : SetR w h a S n) {L : List Int} (hL : ∀ k, S k = true → k ∈ L) : n ≤ L.length := by
  obtain ⟨o, es, ep, t, ho, hx, hd, g, nd, hm, hb, hf, hn, _⟩ := R
  have e : (es.toList.map keyOf).length = n := by rw [List.length_map, Array.length_toList, hn]
  rw [← e]
  exact nodup_few nd fun k hk => hL k ((hm k).2 hk)
section
variable {X : Cx}
def rSetLI (w : World) : List V → Hp → VK → Prop := fun vs H Q => ∃ (l : Addr) (ns : List Int), vs = [V.ref l] ∧ H l = some (.lst (ns.map V.int)) ∧ ns.length + 1 < scanBound ∧
  ∀ (p : Addr) (c : Nat), H p = none → (∀ L : List Int, (∀ k ∈ ns, k ∈ L) → c ≤ L.length) → Q (.ref p) (upd H p (SetO w p (fun j => decide (j ∈ ns)) c))
theorem cr_setLI (hc : X.calm = true) : CallR X (.type "set") (rSetLI X.w) := by
  intro pins s σ H xs us Q I r h
  obtain ⟨l, ns, rfl, hl, hb, q⟩ := h
  rw [Vals.ref1 r]
  obtain ⟨its, rv, pl, hz⟩ := I.list (Or.inl (Or.inl hl))
  have hi := ints_of_vals rv
  refine call_set_lstI ns (I.ok.hd hc) pl.isList (by simpa using hi) hb fun t ht => ?_
  obtain ⟨_, h', tk, c, rfl, R, hcn, hk⟩ := ht
  exact ⟨.ref _, upd H s.heap.objs.size (SetO X.w s.heap.objs.size (fun j => decide (j ∈ ns)) c), I.laid (t' := tk) hk (Nat.le_refl _) (setO_new R), rfl, q _ _ (I.hok.fresh (Nat.le_refl _)) fun L hL => R.few fun k hk => hL k (of_decide_eq_true hk)⟩
end
end L2
set_option Elab.async false
set_option linter.all false
set_option maxRecDepth 100000
set_option maxHeartbeats 4000000
namespace N
open PySem PySem.Spec PyProof.Rows L2 Evl
section
variable {X : Cx} (K : PySem.W.Frag) (w : World) {e : Expr} {ta : TE} {p pos : Pos}
/-- any(xs), all(xs), sorted(s) of a set, set(xs) -/
theorem pany (hm : X.mg "any" = none) (he : PE X e ta) (hc : X.calm = true := by rfl) (hg : Gl X "any" := by rfl) (hs : starEach [e] X.env = (false, eval e X.env) :: starEach [] X.env := by rfl) (hpl : (backTo pos (starEach [] X.env)).any (·.1) = false := by rfl) (hK : X.K = K := by rfl) :
    PE X (.Call (.Name "any" p) [e] [] pos) (tCB (rAny K) (tCons ta tNil)) := by
  subst hK
  exact pe_callB (cr_any hc) hg hm (by decide +kernel) (pa_cons he pa_nil hs) (by decide) (by decide) hs hpl
theorem pall (hm : X.mg "all" = none) (he : PE X e ta) (hc : X.calm = true := by rfl) (hg : Gl X "all" := by rfl) (hs : starEach [e] X.env = (false, eval e X.env) :: starEach [] X.env := by rfl) (hpl : (backTo pos (starEach [] X.env)).any (·.1) = false := by rfl) (hK : X.K = K := by rfl) :
    PE X (.Call (.Name "all" p) [e] [] pos) (tCB (rAll K) (tCons ta tNil)) := by
  subst hK
  exact pe_callB (cr_all hc) hg hm (by decide +kernel) (pa_cons he pa_nil hs) (by decide) (by decide) hs hpl
theorem psortedSet (hm : X.mg "sorted" = none) (he : PE X e ta) (hc : X.calm = true := by rfl) (hg : Gl X "sorted" := by rfl) (hs : starEach [e] X.env = (false, eval e X.env) :: starEach [] X.env := by rfl) (hpl : (backTo pos (starEach [] X.env)).any (·.1) = false := by rfl) (hw : X.w = w := by rfl) :
    PE X (.Call (.Name "sorted" p) [e] [] pos) (tCB (rSortedSet w) (tCons ta tNil)) := by
  subst hw
  exact pe_callB (cr_sortedSet hc) hg hm (by decide +kernel) (pa_cons he pa_nil hs) (by decide) (by decide) hs hpl
theorem psetL (hm : X.mg "set" = none) (he : PE X e ta) (hc : X.calm = true := by rfl) (hg : Gl X "set" := by rfl) (hs : starEach [e] X.env = (false, eval e X.env) :: starEach [] X.env := by rfl) (hpl : (backTo pos (starEach [] X.env)).any (·.1) = false := by rfl) (hw : X.w = w := by rfl) :
    PE X (.Call (.Name "set" p) [e] [] pos) (tCB (rSetLI w) (tCons ta tNil)) := by
  subst hw
  exact pe_callTy (cr_setLI hc) hg hm (by decide +kernel) (pa_cons he pa_nil hs) (by decide) (by decide) hs hpl
end
theorem up_eqI : ∀ {a b : List Int}, a.Pairwise (· < ·) → b.Pairwise (· < ·) → (∀ x, x ∈ a ↔ x ∈ b) → a = b
  | [], [], _, _, _ => rfl
  | [], y :: b, _, _, h => by have := (h y).mpr (List.mem_cons_self ..); cases this
  | x :: a, [], _, _, h => by have := (h x).mp (List.mem_cons_self ..); cases this
  | x :: a, y :: b, ha, hb, h => by
    rw [List.pairwise_cons] at ha hb
    have e : x = y := by
      rcases List.mem_cons.mp ((h x).mp (List.mem_cons_self ..)) with z | z
      · exact z
      · rcases List.mem_cons.mp ((h y).mpr (List.mem_cons_self ..)) with q | q
        · exact q.symm
        · have := hb.1 x z
          have := ha.1 y q
          omega
    subst e
    have t : a = b := up_eqI ha.2 hb.2 fun z => by
      constructor
      · intro hz
        rcases List.mem_cons.mp ((h z).mp (List.mem_cons_of_mem _ hz)) with q | q
        · have := ha.1 z hz; omega
        · exact q
      · intro hz
        rcases List.mem_cons.mp ((h z).mpr (List.mem_cons_of_mem _ hz)) with q | q
        · have := hb.1 z hz; omega
        · exact q
    rw [t]
section
variable {K : PySem.W.Frag} {w : World} {σ : L2.St} {H : Hp} {ta tb tc te : TE} {t : TT} {x y z v : V}
theorem ev_any {bs : List Bool} (h : EvL te σ H (bs.map V.bl)) : Ev (tCB (rAny K) (tCons te tNil)) σ H (.bl (bs.any id)) := fun H1 e1 Q k =>
  h H1 e1 _ fun p H2 np e2 hp => ⟨p, bs, rfl, sq_of hp, k H2 e2⟩
theorem ev_all {bs : List Bool} (h : EvL te σ H (bs.map V.bl)) : Ev (tCB (rAll K) (tCons te tNil)) σ H (.bl (bs.all id)) := fun H1 e1 Q k =>
  h H1 e1 _ fun p H2 np e2 hp => ⟨p, bs, rfl, sq_of hp, k H2 e2⟩
theorem el_if {xs : List V} {b : Bool} (h : EvT t σ H b) (h1 : b = true → EvL ta σ H xs) (h2 : b = false → EvL tb σ H xs) : EvL (tIf t ta tb) σ H xs := fun H1 e Q q => h H1 e _ fun H2 e2 => by
  cases b with
  | true =>
    show ta σ H2 Q
    exact h1 rfl H2 (e.trans e2) Q fun p H3 np e3 hp => q p H3 (fresh_back e2 np) (e2.trans e3) hp
  | false =>
    show tb σ H2 Q
    exact h2 rfl H2 (e.trans e2) Q fun p H3 np e3 hp => q p H3 (fresh_back e2 np) (e2.trans e3) hp
theorem ev_chain2 {i j k : Int} (ha : Ev ta σ H (.int i)) (hb : Ev tb σ H (.int j)) (hc : Ev tc σ H (.int k)) : Ev (tChain (rI0 fun i j => .bl (decide (i ≤ j))) (rI0 fun i j => .bl (decide (i < j))) ta tb tc) σ H (.bl (decide (i ≤ j) && decide (j < k))) := fun H1 e1 Q q =>
  ha H1 e1 _ fun H2 e2 => hb H2 (e1.trans e2) _ fun H3 e3 => by
    refine ⟨i, j, rfl, rfl, decide (i ≤ j), rfl, ?_⟩
    by_cases h : i ≤ j
    · rw [decide_eq_true h, if_pos rfl]
      exact hc H3 ((e1.trans e2).trans e3) _ fun H4 e4 => ⟨j, k, rfl, rfl, by
        have z := q H4 ((e2.trans e3).trans e4)
        rw [decide_eq_true h] at z
        exact z⟩
    · have z := q H3 (e2.trans e3)
      rw [decide_eq_false h] at z ⊢
      rw [if_neg (by decide)]
      exact z
/-- sorted(set(xs)) -/
theorem el_sortedSet {l : Addr} {ns L : List Nat} (h : Ev te σ H (.ref l)) (hl : H l = some (.lst (vnats ns))) (hn : ns.length ≤ 4090) (hu : L.Pairwise (· < ·)) (hm : ∀ x, x ∈ ns ↔ x ∈ L) (hL : L.length ≤ 63) :
    EvL (tCB (rSortedSet w) (tCons (tCB (rSetLI w) (tCons te tNil)) tNil)) σ H (vnats L) := fun H1 e1 Q k =>
  h H1 e1 _ fun H2 e2 => ⟨l, NM.nI ns, rfl, by rw [(e1.trans e2) _ _ hl, ← vints_nI]; rfl, by
      unfold NM.nI scanBound
      rw [List.length_map]
      omega, fun p c np hc => by
    have c63 : c ≤ 63 := by
      have z := hc (NM.nI L) (fun k hk => by
        unfold NM.nI at hk ⊢
        obtain ⟨x, hx, rfl⟩ := List.mem_map.mp hk
        exact List.mem_map.mpr ⟨x, (hm x).mp hx, rfl⟩)
      unfold NM.nI at z
      rw [List.length_map] at z
      omega
    refine ⟨p, _, c, rfl, upd_same, by omega, fun ns' q pw mem len nq => ?_⟩
    have e : ns' = NM.nI L := up_eqI pw (by
      unfold NM.nI
      rw [List.pairwise_map]
      exact hu.imp fun h => by omega) fun x => by
      rw [mem x, decide_eq_true_eq]
      unfold NM.nI
      rw [List.mem_map, List.mem_map]
      constructor
      · rintro ⟨y, hy, rfl⟩
        exact ⟨y, (hm y).mp hy, rfl⟩
      · rintro ⟨y, hy, rfl⟩
        exact ⟨y, (hm y).mpr hy, rfl⟩
    have nq2 := fresh_back (Ex.new (o := SetO w p (fun j => decide (j ∈ NM.nI ns)) c) np) nq
    refine k q _ (fresh_back e2 nq2) (e2.trans ((Ex.new np).trans (Ex.new nq))) ?_
    rw [upd_same, e, ← vints_nI]
    rfl⟩
end
end N
set_option Elab.async false
set_option linter.all false
set_option maxRecDepth 100000
set_option maxHeartbeats 4000000
namespace N
open PySem PySem.Spec PyProof.Rows L2 Evl
open NM (Thing want thingsOf Fits vI rI FOk FBk)
section
variable {P : Program} {w : World} {K : PySem.W.Frag} {mg : Str → Option Value} {base : Heap} {CF CD CC CR : Addr}
/-- what labels.py and rows.py know of names -/
structure TxtL (K : PySem.W.Frag) (mg : Str → Option Value) (CF : Addr) : Prop extends Txt K mg CF where
  any : mg "any" = none
  all : mg "all" = none
  sorted : mg "sorted" = none
  set : mg "set" = none
theorem d_get {d : List Int} {s : Nat} (h : s < d.length) : d[s]? = some (d.getD s 0) := by
  rw [List.getD_eq_getElem?_getD, List.getElem?_eq_getElem h]
  rfl
-- def is_borne(field, labels, state):
--     if labels[state] <= 0:
--         return True
--     for value in field.asked(state):
--         if not any([labels[way] >= labels[state] - 1 for way in field.ways(state, value)]):
--             return False
--     return True
-- slots 0:field 1:labels 2:state 3:value 4:way
abbrev sis_borne : Stmt := top 57
theorem scis_borne : FnScope ["field", "labels", "state", "value", "way"] ["field", "labels", "state"] (defScope sis_borne) := ⟨rfl, rfl, rfl, by decide +kernel, rfl, by decide +kernel, by decide +kernel⟩
def sp_is_borne (CF : Addr) : Sp := pV fun vs H v => ∃ (lf lp : Addr) (s : Nat) (f : Fld) (d : List Int) (rk : List Int) (bs : List (List Int)), vs = [.ref lf, .ref lp, .int s] ∧ FldW CF H lf f rk bs ∧ FBk f ∧ H lp = some (.lst (vints d)) ∧ d.length = Vbenaf.states f ∧ s < Vbenaf.states f ∧ v = .bl (NM.borne f d s)
theorem ok_is_borne {f : Addr} {fd : FuncData} (F : Fun K "is_borne" "is_borne" sis_borne f fd) (T : TxtL K mg CF) (m_Field_asked : Met P w K mg base CX0 2 CF "asked" (spAsked CF)) (m_Field_ways : Met P w K mg base CX0 1 CF "ways" (spF_ways CF)) : FnOk P w K mg base CX0 3 f fd ["field", "labels", "state"] (sp_is_borne CF) := by
  refine F.ok scis_borne (fun vs H Q E h => ?_) (fun cdv A outer s H vs Q E hr h => ?_)
  · obtain ⟨v, ⟨lf, lp, st, f, d, rk, bs, rfl, _⟩, _⟩ := h
    rfl
  · obtain ⟨v, ⟨lf, lp, st, fl, d, rk, bs, rfl, hF, ok, hd, hdl, hs, rfl⟩, ret⟩ := h
    obtain ⟨A, hL⟩ := id hF
    refine ⟨_, (pss_cons (ps_if (pt_cmpR op_le (pix K (pv 1) (pv 2)) pe_int (nomark _))
        (pss_one (ps_ret pe_bl))
        pss_nil)
      (pss_cons (ps_for PassesOwn.never rfl (piList K (pmt m_Field_asked hr (by decide) (pv 0) (pa_cons (pv 2) pa_nil))) (pg_name (i := 3) scis_borne.nd rfl (Or.inl rfl))
        (pss_one (ps_if (pt_not (pt_val (pany K T.any (pe_lc (own := [("way", 4)]) (g := (gName 4)) (by rfl) scis_borne.nd (piList K (pmt m_Field_ways hr (by decide) (pv 0) (pa_cons (pv 2) (pa_cons (pv 3) pa_nil)))) (blkOk_by (own := [("way", 4)]) (N := ["field", "labels", "state", "value", "way"]) (sc := defScope sis_borne) (by decide +kernel)) (fun _ _ _ _ _ => (pg_name (i := 4) scis_borne.nd rfl (Or.inl rfl))) (fun _ _ _ _ _ => pts_nil) (fun _ _ _ _ _ => (pe_cmpR op_ge (pix K (pv 1) (pv 4)) (pe_op op_sub (pix K (pv 1) (pv 2)) pe_int) (nomark _)))))))
        (pss_one (ps_ret pe_bl))
        pss_nil)))
      (pss_one (ps_ret pe_bl)))), ?_⟩
    have n64 := ok.n64
    have hds : d[st]? = some (d.getD st 0) := d_get (by omega)
    refine q_when (b := decide (d.getD st 0 ≤ 0)) (et_test (ev_op (i_ix (ev_var rfl) hd (ev_var rfl) hds) ev_c rv_I0)) (fun hb H1 e1 => ?_) (fun hb H1 e1 => ?_)
    · have e : NM.borne fl d st = true := by
        unfold NM.borne
        rw [decide_eq_false (p := 0 < d.getD st 0) (by have := of_decide_eq_true hb; omega)]
        rfl
      rw [e] at ret
      exact s_ret ev_c fun H2 e2 => ret H2 (e1.trans e2)
    · have hpos : 0 < d.getD st 0 := by have := of_decide_eq_false hb; omega
      have eb : NM.borne fl d st = !((Vbenaf.asked fl st).any (NM.ubad fl d st)) := by
        unfold NM.borne
        rw [decide_eq_true hpos]
        rfl
      rw [eb] at ret
      refine q_forNLn (xs := vnats (Vbenaf.asked fl st)) (el_mth (ev_var rfl) (e1 _ _ hL.o) (fF_no (by decide +kernel)) (ea_one (ev_var rfl)) (pL.sp fun H2 e2 => ⟨lf, st, fl, rk, bs, rfl, hF.ex (e1.trans e2), ok, hs, rfl⟩))
        (fun p i σ' H' => ∃ v3, σ' = [some (.ref lf), some (.ref lp), some (.int (st : Int)), v3, none] ∧ Ex H H' ∧ H' p = some (.lst (vnats (Vbenaf.asked fl st))) ∧ ((Vbenaf.asked fl st).take i).any (NM.ubad fl d st) = false)
        (fun p H2 np e2 hp => ⟨none, rfl, e1.trans e2, hp, rfl⟩) (fun p i σ' H' _ ⟨v3, _, _, h1, _⟩ => sq_of h1) ?_ ?_
      · rintro p i x σ' H' hi ⟨v3, rfl, e2, hp, hn⟩
        rw [vnats, List.getElem?_map] at hi
        cases ht : (Vbenaf.asked fl st)[i]? with
        | none => rw [ht] at hi; cases hi
        | some t =>
          rw [ht] at hi
          have : x = .int (t : Int) := (Option.some.inj hi).symm
          subst this
          have hwl := NM.ways_len fl st t
          have key : EvL (tLc (iList K (tMeth CF "ways" (spF_ways CF) [] E0 (tVar 0) (tCons (tVar 2) (tCons (tVar 3) tNil)))) (gName 4) tYes (tOp (rI0 fun i j => V.bl (decide (i ≥ j))) (tOp (rIxL K) (tVar 1) (tVar 4)) (tOp (rI0 fun i j => V.int (i - j)) (tOp (rIxL K) (tVar 1) (tVar 2)) (tC (.int 1)))) [4]) [some (.ref lf), some (.ref lp), some (.int (st : Int)), some (.int (t : Int)), none] H' (((Vbenaf.ways fl st t).map fun u => decide (d.getD st 0 ≤ 1 + d.getD u 0)).map V.bl) := by
            have z := el_lcNLm (K := K) (tl := tMeth CF "ways" (spF_ways CF) [] E0 (tVar 0) (tCons (tVar 2) (tCons (tVar 3) tNil))) (α := Nat) (l := Vbenaf.ways fl st t) (c := fun u => V.int (u : Int)) (g := fun _ => true) (v := fun u => V.bl (decide (d.getD st 0 ≤ 1 + d.getD u 0))) (j := 4) (vs := [4]) (t := tYes) (te := tOp (rI0 fun i j => V.bl (decide (i ≥ j))) (tOp (rIxL K) (tVar 1) (tVar 4)) (tOp (rI0 fun i j => V.int (i - j)) (tOp (rIxL K) (tVar 1) (tVar 2)) (tC (.int 1)))) (σ := [some (.ref lf), some (.ref lp), some (.int (st : Int)), some (.int (t : Int)), none]) (H := H')
              (el_mth (ev_var rfl) (e2 _ _ hL.o) (fF_no (by decide +kernel)) (ea_two (ev_var rfl) (ev_var rfl)) (pL.sp fun H3 e3 => ⟨lf, st, t, fl, rk, bs, rfl, hF.ex (e2.trans e3), ok, hs, rfl⟩)) (by omega) (fun x => rfl) (fun o H3 _ _ => fun H4 _ Q q => q H4 (Ex.refl _)) (fun u H3 e3 hu _ => by
                have ul := NM.ways_lt hs hu
                refine ev_is (ev_op (i_ix (ev_var rfl) ((e2.trans e3) _ _ hd) (ev_var rfl) (d_get (by omega))) (ev_op (i_ix (ev_var rfl) ((e2.trans e3) _ _ hd) (ev_var rfl) hds) ev_c rv_I0) rv_I0) ?_
                congr 1
                rw [Bool.eq_iff_iff, decide_eq_true_eq, decide_eq_true_eq]
                omega)
            rw [List.filter_eq_self.mpr (fun _ _ => rfl)] at z
            rw [List.map_map]
            exact z
          refine s_when (b := NM.ubad fl d st t) (et_is (et_not (et_B (ev_any key))) (by
            unfold NM.ubad
            rw [List.any_map]
            rfl)) (fun hc H3 e3 => s_ret ev_c fun H4 e4 => ?_) (fun hc H3 e3 => ?_)
          · have e : (Vbenaf.asked fl st).any (NM.ubad fl d st) = true := List.any_eq_true.mpr ⟨t, List.mem_of_getElem? ht, hc⟩
            rw [e] at ret
            exact ret H4 (e2.trans (e3.trans e4))
          · refine ⟨_, rfl, e2.trans e3, e3 _ _ hp, ?_⟩
            rw [NM.take_snoc ht, List.any_append, hn, List.any_cons, hc]
            rfl
      · rintro p σ' H' ⟨v3, rfl, e2, hp, hn⟩
        rw [vnats_len, List.take_length] at hn
        rw [hn] at ret
        exact s_ret ev_c fun H3 e3 => ret H3 (e2.trans e3)
-- def is_never_passed(field, labels, state):
--     if labels[state] < 0:
--         return True
--     for value in field.asked(state):
--         if all([0 <= labels[way] < labels[state] for way in field.ways(state, value)]):
--             return True
--     return False
-- slots 0:field 1:labels 2:state 3:value 4:way
abbrev sis_never_passed : Stmt := top 58
theorem scis_never_passed : FnScope ["field", "labels", "state", "value", "way"] ["field", "labels", "state"] (defScope sis_never_passed) := ⟨rfl, rfl, rfl, by decide +kernel, rfl, by decide +kernel, by decide +kernel⟩
def sp_is_never_passed (CF : Addr) : Sp := pV fun vs H v => ∃ (lf lp : Addr) (s : Nat) (f : Fld) (d : List Int) (rk : List Int) (bs : List (List Int)), vs = [.ref lf, .ref lp, .int s] ∧ FldW CF H lf f rk bs ∧ FBk f ∧ H lp = some (.lst (vints d)) ∧ d.length = Vbenaf.states f ∧ s < Vbenaf.states f ∧ v = .bl (NM.unpassed f d s)
theorem ok_is_never_passed {f : Addr} {fd : FuncData} (F : Fun K "is_never_passed" "is_never_passed" sis_never_passed f fd) (T : TxtL K mg CF) (m_Field_asked : Met P w K mg base CX0 2 CF "asked" (spAsked CF)) (m_Field_ways : Met P w K mg base CX0 1 CF "ways" (spF_ways CF)) : FnOk P w K mg base CX0 3 f fd ["field", "labels", "state"] (sp_is_never_passed CF) := by
  refine F.ok scis_never_passed (fun vs H Q E h => ?_) (fun cdv A outer s H vs Q E hr h => ?_)
  · obtain ⟨v, ⟨lf, lp, st, f, d, rk, bs, rfl, _⟩, _⟩ := h
    rfl
  · obtain ⟨v, ⟨lf, lp, st, fl, d, rk, bs, rfl, hF, ok, hd, hdl, hs, rfl⟩, ret⟩ := h
    obtain ⟨A, hL⟩ := id hF
    refine ⟨_, (pss_cons (ps_if (pt_cmpR op_lt (pix K (pv 1) (pv 2)) pe_int (nomark _))
        (pss_one (ps_ret pe_bl))
        pss_nil)
      (pss_cons (ps_for PassesOwn.never rfl (piList K (pmt m_Field_asked hr (by decide) (pv 0) (pa_cons (pv 2) pa_nil))) (pg_name (i := 3) scis_never_passed.nd rfl (Or.inl rfl))
        (pss_one (ps_if (pt_val (pall K T.all (pe_lc (own := [("way", 4)]) (g := (gName 4)) (by rfl) scis_never_passed.nd (piList K (pmt m_Field_ways hr (by decide) (pv 0) (pa_cons (pv 2) (pa_cons (pv 3) pa_nil)))) (blkOk_by (own := [("way", 4)]) (N := ["field", "labels", "state", "value", "way"]) (sc := defScope sis_never_passed) (by decide +kernel)) (fun _ _ _ _ _ => (pg_name (i := 4) scis_never_passed.nd rfl (Or.inl rfl))) (fun _ _ _ _ _ => pts_nil) (fun _ _ _ _ _ => (pe_chain op_le op_lt pe_int (pix K (pv 1) (pv 4)) (pix K (pv 1) (pv 2)))))))
        (pss_one (ps_ret pe_bl))
        pss_nil)))
      (pss_one (ps_ret pe_bl)))), ?_⟩
    have n64 := ok.n64
    have hds : d[st]? = some (d.getD st 0) := d_get (by omega)
    refine q_when (b := decide (d.getD st 0 < 0)) (et_test (ev_op (i_ix (ev_var rfl) hd (ev_var rfl) hds) ev_c rv_I0)) (fun hb H1 e1 => ?_) (fun hb H1 e1 => ?_)
    · have e : NM.unpassed fl d st = true := by
        unfold NM.unpassed
        rw [decide_eq_false (p := 0 ≤ d.getD st 0) (by have := of_decide_eq_true hb; omega)]
        rfl
      rw [e] at ret
      exact s_ret ev_c fun H2 e2 => ret H2 (e1.trans e2)
    · have hpos : 0 ≤ d.getD st 0 := by have := of_decide_eq_false hb; omega
      have eb : NM.unpassed fl d st = (Vbenaf.asked fl st).any (NM.ugood fl d st) := by
        unfold NM.unpassed
        rw [decide_eq_true hpos, Bool.true_and, Bool.not_not]
      rw [eb] at ret
      refine q_forNLn (xs := vnats (Vbenaf.asked fl st)) (el_mth (ev_var rfl) (e1 _ _ hL.o) (fF_no (by decide +kernel)) (ea_one (ev_var rfl)) (pL.sp fun H2 e2 => ⟨lf, st, fl, rk, bs, rfl, hF.ex (e1.trans e2), ok, hs, rfl⟩))
        (fun p i σ' H' => ∃ v3, σ' = [some (.ref lf), some (.ref lp), some (.int (st : Int)), v3, none] ∧ Ex H H' ∧ H' p = some (.lst (vnats (Vbenaf.asked fl st))) ∧ ((Vbenaf.asked fl st).take i).any (NM.ugood fl d st) = false)
        (fun p H2 np e2 hp => ⟨none, rfl, e1.trans e2, hp, rfl⟩) (fun p i σ' H' _ ⟨v3, _, _, h1, _⟩ => sq_of h1) ?_ ?_
      · rintro p i x σ' H' hi ⟨v3, rfl, e2, hp, hn⟩
        rw [vnats, List.getElem?_map] at hi
        cases ht : (Vbenaf.asked fl st)[i]? with
        | none => rw [ht] at hi; cases hi
        | some t =>
          rw [ht] at hi
          have : x = .int (t : Int) := (Option.some.inj hi).symm
          subst this
          have hwl := NM.ways_len fl st t
          have key : EvL (tLc (iList K (tMeth CF "ways" (spF_ways CF) [] E0 (tVar 0) (tCons (tVar 2) (tCons (tVar 3) tNil)))) (gName 4) tYes (tChain (rI0 fun i j => V.bl (decide (i ≤ j))) (rI0 fun i j => V.bl (decide (i < j))) (tC (.int 0)) (tOp (rIxL K) (tVar 1) (tVar 4)) (tOp (rIxL K) (tVar 1) (tVar 2))) [4]) [some (.ref lf), some (.ref lp), some (.int (st : Int)), some (.int (t : Int)), none] H' (((Vbenaf.ways fl st t).map fun u => decide (0 ≤ d.getD u 0 ∧ 1 + d.getD u 0 ≤ d.getD st 0)).map V.bl) := by
            have z := el_lcNLm (K := K) (tl := tMeth CF "ways" (spF_ways CF) [] E0 (tVar 0) (tCons (tVar 2) (tCons (tVar 3) tNil))) (α := Nat) (l := Vbenaf.ways fl st t) (c := fun u => V.int (u : Int)) (g := fun _ => true) (v := fun u => V.bl (decide (0 ≤ d.getD u 0 ∧ 1 + d.getD u 0 ≤ d.getD st 0))) (j := 4) (vs := [4]) (t := tYes) (te := tChain (rI0 fun i j => V.bl (decide (i ≤ j))) (rI0 fun i j => V.bl (decide (i < j))) (tC (.int 0)) (tOp (rIxL K) (tVar 1) (tVar 4)) (tOp (rIxL K) (tVar 1) (tVar 2))) (σ := [some (.ref lf), some (.ref lp), some (.int (st : Int)), some (.int (t : Int)), none]) (H := H')
              (el_mth (ev_var rfl) (e2 _ _ hL.o) (fF_no (by decide +kernel)) (ea_two (ev_var rfl) (ev_var rfl)) (pL.sp fun H3 e3 => ⟨lf, st, t, fl, rk, bs, rfl, hF.ex (e2.trans e3), ok, hs, rfl⟩)) (by omega) (fun x => rfl) (fun o H3 _ _ => fun H4 _ Q q => q H4 (Ex.refl _)) (fun u H3 e3 hu _ => by
                have ul := NM.ways_lt hs hu
                refine ev_is (ev_chain2 ev_c (i_ix (ev_var rfl) ((e2.trans e3) _ _ hd) (ev_var rfl) (d_get (by omega))) (i_ix (ev_var rfl) ((e2.trans e3) _ _ hd) (ev_var rfl) hds)) ?_
                congr 1
                rw [Bool.eq_iff_iff, Bool.and_eq_true, decide_eq_true_eq, decide_eq_true_eq, decide_eq_true_eq]
                omega)
            rw [List.filter_eq_self.mpr (fun _ _ => rfl)] at z
            rw [List.map_map]
            exact z
          refine s_when (b := NM.ugood fl d st t) (et_is (et_B (ev_all key)) (by
            unfold NM.ugood
            rw [List.all_map]
            rfl)) (fun hc H3 e3 => s_ret ev_c fun H4 e4 => ?_) (fun hc H3 e3 => ?_)
          · have e : (Vbenaf.asked fl st).any (NM.ugood fl d st) = true := List.any_eq_true.mpr ⟨t, List.mem_of_getElem? ht, hc⟩
            rw [e] at ret
            exact ret H4 (e2.trans (e3.trans e4))
          · refine ⟨_, rfl, e2.trans e3, e3 _ _ hp, ?_⟩
            rw [NM.take_snoc ht, List.any_append, hn, List.any_cons, hc]
            rfl
      · rintro p σ' H' ⟨v3, rfl, e2, hp, hn⟩
        rw [vnats_len, List.take_length] at hn
        rw [hn] at ret
        exact s_ret ev_c fun H3 e3 => ret H3 (e2.trans e3)
-- def states_not_borne(field, labels):
--     return [state for state in range(field.state_count()) if not is_borne(field, labels, state)]
-- slots 0:field 1:labels 2:state
abbrev sstates_not_borne : Stmt := top 59
theorem scstates_not_borne : FnScope ["field", "labels", "state"] ["field", "labels"] (defScope sstates_not_borne) := ⟨rfl, rfl, rfl, by decide +kernel, rfl, by decide +kernel, by decide +kernel⟩
def sp_not_borne (CF : Addr) : Sp := pL fun vs H xs => ∃ (lf lp : Addr) (f : Fld) (d : List Int) (rk : List Int) (bs : List (List Int)), vs = [.ref lf, .ref lp] ∧ FldW CF H lf f rk bs ∧ FBk f ∧ H lp = some (.lst (vints d)) ∧ d.length = Vbenaf.states f ∧ xs = vnats (NM.badL f d)
theorem ok_states_not_borne {f : Addr} {fd : FuncData} (F : Fun K "states_not_borne" "states_not_borne" sstates_not_borne f fd) (T : TxtL K mg CF) (m_Field_state_count : Met P w K mg base CX0 1 CF "state_count" (spF_state_count CF)) (c_is_borne : Cal P w K mg base CX0 3 "is_borne" (sp_is_borne CF)) : FnOk P w K mg base CX0 4 f fd ["field", "labels"] (sp_not_borne CF) := by
  refine F.ok scstates_not_borne (fun vs H Q E h => ?_) (fun cdv A outer s H vs Q E hr h => ?_)
  · obtain ⟨v, ⟨lf, lp, f, d, rk, bs, rfl, _⟩, _⟩ := h
    rfl
  · obtain ⟨v, ⟨lf, lp, fl, d, rk, bs, rfl, hF, ok, hd, hdl, rfl⟩, ret⟩ := h
    obtain ⟨A, hL⟩ := id hF
    refine ⟨_, (pss_one (ps_ret (pe_lc (own := [("state", 2)]) (g := (gName 2)) (by rfl) scstates_not_borne.nd (pi_range1 (by rfl) T.range (pa_cons (pmt0 m_Field_state_count hr (by decide) (pv 0)) pa_nil)) (blkOk_by (own := [("state", 2)]) (N := ["field", "labels", "state"]) (sc := defScope sstates_not_borne) (by decide +kernel)) (fun _ _ _ _ _ => (pg_name (i := 2) scstates_not_borne.nd rfl (Or.inl rfl))) (fun _ _ _ _ _ => (pts_one (pt_not (pt_val (pc c_is_borne hr (by decide) (by rfl) (pa_cons (pv 0) (pa_cons (pv 1) (pa_cons (pv 2) pa_nil)))))))) (fun _ _ _ _ _ => (pv 2))))), ?_⟩
    have n64 := ok.n64
    refine s_retL (el_lcR1 (n := (Vbenaf.states fl : Int)) (fun i => !NM.borne fl d i) (fun i => .int (i : Int)) (ea_one (ev_mth (ev_var rfl) hL.o (fF_no (by decide +kernel)) ea_nil (pV.sp fun H1 e1 => ⟨lf, fl, rk, bs, rfl, hF.ex e1, ok, rfl⟩))) (by omega) (fun x => rfl) (fun i H3 e3 hi => et_not (et_B (ev_call (ea_cons (ev_var rfl) (ea_two (ev_var rfl) (ev_var rfl))) (pV.sp fun H4 e4 => ⟨lf, lp, i, fl, d, rk, bs, rfl, hF.ex (e3.trans e4), ok, (e3.trans e4) _ _ hd, hdl, by omega, rfl⟩)))) fun i H3 e3 hi _ => ev_var rfl) fun p H3 n e3 hp => ret p H3 n e3 (by rw [hp]; rfl)
-- def states_passed(field, labels):
--     return [state for state in range(field.state_count()) if not is_never_passed(field, labels, state)]
-- slots 0:field 1:labels 2:state
abbrev sstates_passed : Stmt := top 60
theorem scstates_passed : FnScope ["field", "labels", "state"] ["field", "labels"] (defScope sstates_passed) := ⟨rfl, rfl, rfl, by decide +kernel, rfl, by decide +kernel, by decide +kernel⟩
def sp_passed (CF : Addr) : Sp := pL fun vs H xs => ∃ (lf lp : Addr) (f : Fld) (d : List Int) (rk : List Int) (bs : List (List Int)), vs = [.ref lf, .ref lp] ∧ FldW CF H lf f rk bs ∧ FBk f ∧ H lp = some (.lst (vints d)) ∧ d.length = Vbenaf.states f ∧ xs = vnats (NM.badU f d)
theorem ok_states_passed {f : Addr} {fd : FuncData} (F : Fun K "states_passed" "states_passed" sstates_passed f fd) (T : TxtL K mg CF) (m_Field_state_count : Met P w K mg base CX0 1 CF "state_count" (spF_state_count CF)) (c_is_never_passed : Cal P w K mg base CX0 3 "is_never_passed" (sp_is_never_passed CF)) : FnOk P w K mg base CX0 4 f fd ["field", "labels"] (sp_passed CF) := by
  refine F.ok scstates_passed (fun vs H Q E h => ?_) (fun cdv A outer s H vs Q E hr h => ?_)
  · obtain ⟨v, ⟨lf, lp, f, d, rk, bs, rfl, _⟩, _⟩ := h
    rfl
  · obtain ⟨v, ⟨lf, lp, fl, d, rk, bs, rfl, hF, ok, hd, hdl, rfl⟩, ret⟩ := h
    obtain ⟨A, hL⟩ := id hF
    refine ⟨_, (pss_one (ps_ret (pe_lc (own := [("state", 2)]) (g := (gName 2)) (by rfl) scstates_passed.nd (pi_range1 (by rfl) T.range (pa_cons (pmt0 m_Field_state_count hr (by decide) (pv 0)) pa_nil)) (blkOk_by (own := [("state", 2)]) (N := ["field", "labels", "state"]) (sc := defScope sstates_passed) (by decide +kernel)) (fun _ _ _ _ _ => (pg_name (i := 2) scstates_passed.nd rfl (Or.inl rfl))) (fun _ _ _ _ _ => (pts_one (pt_not (pt_val (pc c_is_never_passed hr (by decide) (by rfl) (pa_cons (pv 0) (pa_cons (pv 1) (pa_cons (pv 2) pa_nil)))))))) (fun _ _ _ _ _ => (pv 2))))), ?_⟩
    have n64 := ok.n64
    refine s_retL (el_lcR1 (n := (Vbenaf.states fl : Int)) (fun i => !NM.unpassed fl d i) (fun i => .int (i : Int)) (ea_one (ev_mth (ev_var rfl) hL.o (fF_no (by decide +kernel)) ea_nil (pV.sp fun H1 e1 => ⟨lf, fl, rk, bs, rfl, hF.ex e1, ok, rfl⟩))) (by omega) (fun x => rfl) (fun i H3 e3 hi => et_not (et_B (ev_call (ea_cons (ev_var rfl) (ea_two (ev_var rfl) (ev_var rfl))) (pV.sp fun H4 e4 => ⟨lf, lp, i, fl, d, rk, bs, rfl, hF.ex (e3.trans e4), ok, (e3.trans e4) _ _ hd, hdl, by omega, rfl⟩)))) fun i H3 e3 hi _ => ev_var rfl) fun p H3 n e3 hp => ret p H3 n e3 (by rw [hp]; rfl)
-- def judged(labels, wrong):
--     return [1, labels[0]] if len(wrong) == 0 else [0, wrong[0]]
-- slots 0:labels 1:wrong
abbrev sjudged : Stmt := top 75
theorem scjudged : FnScope ["labels", "wrong"] ["labels", "wrong"] (defScope sjudged) := ⟨rfl, rfl, rfl, by decide +kernel, rfl, by decide +kernel, by decide +kernel⟩
def judge (d : List Int) : Option Nat → List Int
  | none => [1, d.getD 0 0]
  | some k => [0, (k : Int)]
def sp_judged : Sp := pL fun vs H xs => ∃ (lp q : Addr) (d : List Int) (wr : List Nat), vs = [.ref lp, .ref q] ∧ H lp = some (.lst (vints d)) ∧ 1 ≤ d.length ∧ H q = some (.lst (vnats wr)) ∧ xs = vints (judge d wr.head?)
theorem ok_judged {f : Addr} {fd : FuncData} (F : Fun K "judged" "judged" sjudged f fd) (T : TxtL K mg CF) : FnOk P w K mg base CX0 1 f fd ["labels", "wrong"] sp_judged := by
  refine F.ok scjudged (fun vs H Q E h => ?_) (fun cdv A outer s H vs Q E hr h => ?_)
  · obtain ⟨v, ⟨lp, q, d, wr, rfl, _⟩, _⟩ := h
    rfl
  · obtain ⟨v, ⟨lp, q, d, wr, rfl, hd, hd1, hq, rfl⟩, ret⟩ := h
    refine ⟨_, (pss_one (ps_ret (pe_ifExp (pt_cmpR op_eq (plen K T.len (pv 1)) pe_int (nomark _)) (pe_lst (pa_cons pe_int (pa_cons (pix K (pv 0) pe_int) pa_nil))) (pe_lst (pa_cons pe_int (pa_cons (pix K (pv 1) pe_int) pa_nil)))))), ?_⟩
    refine s_retL (xs := vints (judge d wr.head?)) (el_if (b := decide (wr.length = 0)) (et_test (ev_is (ev_op (ev_lenE (n := (wr.length : Int)) (ev_var rfl) hq (by rw [vnats_len])) ev_c (rv_eq rfl)) (by
      congr 1
      rw [Bool.eq_iff_iff, decide_eq_true_eq, decide_eq_true_eq, V.int.injEq]
      omega))) (fun hb => ?_) (fun hb => ?_)) fun p H1 n e1 hp => ret p H1 n e1 hp
    · have : wr = [] := List.length_eq_zero_iff.mp (of_decide_eq_true hb)
      subst this
      exact el_lst (ea_two ev_c (i_ix (j := 0) (ev_var rfl) hd ev_c (d_get (by omega)))) (Nat.le_of_ble_eq_true rfl)
    · cases wr with
      | nil => cases hb
      | cons k r => exact el_lst (ea_two ev_c (ev_op (ev_var rfl) (ev_c (v := V.int ((0 : Nat) : Int))) (rv_ixL (sq_of hq) (atI_nat rfl)))) (Nat.le_of_ble_eq_true rfl)
end
end N
set_option Elab.async false
set_option linter.all false
set_option maxRecDepth 100000
set_option maxHeartbeats 4000000
namespace N
open PySem PySem.Spec PyProof.Rows L2 Evl
open NM (Thing want thingsOf Fits vI rI FOk FBk SOk)
section
variable {K : PySem.W.Frag} {w : World} {σ : L2.St} {H : Hp} {ta tb tc te tl : TE} {t : TT} {x y z v : V} {D : Ends}
theorem s_extN {l : Addr} {xs ys : List V} (hl : H l = some (.lst xs)) (ha : Ev ta σ H (.ref l)) (h : EvL te σ H ys) (hz : xs.length + ys.length ≤ 100000) (k : ∀ H1, Ex H H1 → D.nx σ (upd H1 l (.lst (xs ++ ys)))) : tDrop (tBM K "list" rExtend ta (tCons te tNil)) D σ H :=
  ha H (Ex.refl H) _ fun H1 e1 => ⟨.inl ⟨rfl, xs, sq_of (e1 l _ hl)⟩, h H1 e1 _ fun b H2 nb e2 hb => ⟨l, b, xs, ys, rfl, rfl, (e1.trans e2) l _ hl, hb, sz_of hz, k H2 (e1.trans e2)⟩⟩
/-- [xs], xs a new list -/
theorem en_lst1 {xs : List V} (h : EvL te σ H xs) : EvN (tLst (tCons te tNil)) σ H fun p H' => ∃ q, H' p = some (.lst [.ref q]) ∧ H' q = some (.lst xs) ∧ H q = none ∧ q ≠ p := fun H1 e1 Q k =>
  h H1 e1 _ fun q H2 nq e2 hq => ⟨Nat.le_of_ble_eq_true rfl, fun p np => by
    have nqp : q ≠ p := fun z => by rw [z, np] at hq; cases hq
    exact k p _ (fresh_back e2 np) (e2.trans (Ex.new np)) ⟨q, upd_same, by rw [upd_ne nqp]; exact hq, fresh_back e1 nq, nqp⟩⟩
theorem given_lens {n : Nat} {f : Nat → Bool} {v u : Nat → V} : (given n f v).length = (given n f u).length := by
  unfold given
  rw [List.length_map, List.length_map]
theorem rows_at {H : Hp} : ∀ {as : List Addr} {ls : List (List Int)} {i : Nat} {q : Addr}, Rows H as ls → as[i]? = some q → ∃ l, ls[i]? = some l ∧ H q = some (.lst (vints l))
  | [], [], i, q, _, h => by cases i <;> cases h
  | a :: as, r :: ls, 0, q, h, e => ⟨r, rfl, by cases e; exact h.1⟩
  | a :: as, r :: ls, i + 1, q, h, e => rows_at (i := i) h.2 e
/-- len([x for x in xs if t]), xs a new list of rows -/
theorem ev_lenRows {ls : List (List Int)} {g : List Int → Bool} {j : Nat} {vs : List Nat} (h : EvN tl σ H fun p H' => ∃ rs, H' p = some (.lst (vrefs rs)) ∧ Rows H' rs ls) (hz : ls.length ≤ 40000) (hw : ∀ x, wipe ((wipe σ vs).set j (some x)) vs = wipe σ vs)
    (ht : ∀ (q : Addr) (l : List Int) H1, H1 q = some (.lst (vints l)) → EvT t ((wipe σ vs).set j (some (.ref q))) H1 (g l)) (he : ∀ (q : Addr) H1, Ev te ((wipe σ vs).set j (some (.ref q))) H1 (.ref q)) :
    Ev (tCB (rLenS K) (tCons (tLc (iList K tl) (gName j) t te vs) tNil)) σ H (.int ((ls.filter g).length : Int)) := fun H1 e1 Q k =>
  h H1 e1 _ fun p H2 np e2 ⟨rs, hp, hr⟩ => by
    have hl := hr.len
    have z := el_lcL (K := K) (tl := tC (.ref p)) (t := t) (te := te) (xs := vrefs rs) (vs := vs) (j := j) (σ := σ) (H := H2) (fun i => (ls[i]?.map g).getD false) (fun i => (rs[i]?.map V.ref).getD .non) ev_c (sq_of hp) (by rw [vrefs_len, hl]; exact hz) hw (fun i x H3 e3 hi => by
      rw [vrefs, List.getElem?_map] at hi
      cases hq : rs[i]? with
      | none => rw [hq] at hi; cases hi
      | some q =>
        rw [hq] at hi
        have : x = .ref q := (Option.some.inj hi).symm
        subst this
        obtain ⟨l, h1, h2⟩ := rows_at hr hq
        rw [h1]
        exact ht q l H3 (e3 _ _ h2)) (fun i x H3 e3 hi _ => by
      rw [vrefs, List.getElem?_map] at hi
      cases hq : rs[i]? with
      | none => rw [hq] at hi; cases hi
      | some q =>
        rw [hq] at hi
        have : x = .ref q := (Option.some.inj hi).symm
        subst this
        exact he q H3)
    have e : (given (vrefs rs).length (fun i => (ls[i]?.map g).getD false) (fun i => (rs[i]?.map V.ref).getD .non)).length = (ls.filter g).length := by
      have y := given_map ls (fun _ => V.non) g (fun _ => V.non) (fun i => (ls[i]?.map g).getD false) (fun _ => V.non) (fun i o ho => by rw [ho]; rfl) (fun i o ho => rfl)
      rw [vrefs_len, hl, given_lens (u := fun _ => V.non), y, List.length_map]
    have zz := ev_lenN (K := K) z H2 (Ex.refl _) Q fun H3 e3 => by
      rw [e]
      exact k H3 (e2.trans e3)
    exact zz
end
section
variable {P : Program} {w : World} {K : PySem.W.Frag} {mg : Str → Option Value} {base : Heap} {CF CD CC CR : Addr}
-- def behind_any(field, states, value):
--     behind = []
--     for state in states:
--         if field.table[state] == value:
--             behind.append(state)
--         elif value in field.asked(state):
--             behind.extend(field.ways(state, value))
--     return sorted(set(behind))
-- slots 0:field 1:states 2:value 3:behind 4:state
abbrev sbehind_any : Stmt := top 62
theorem scbehind_any : FnScope ["field", "states", "value", "behind", "state"] ["field", "states", "value"] (defScope sbehind_any) := ⟨rfl, rfl, rfl, by decide +kernel, rfl, by decide +kernel, by decide +kernel⟩
def sp_behind_any (CF : Addr) : Sp := pL fun vs H xs => ∃ (lf p : Addr) (wv : Nat) (l : List Nat) (f : Fld) (rk : List Int) (bs : List (List Int)), vs = [.ref lf, .ref p, .int wv] ∧ FldW CF H lf f rk bs ∧ FBk f ∧ H p = some (.lst (vnats l)) ∧ SOk f l ∧ xs = vnats (NM.stepB f l wv)
theorem ok_behind_any {f : Addr} {fd : FuncData} (F : Fun K "behind_any" "behind_any" sbehind_any f fd) (T : TxtL K mg CF) (m_Field_asked : Met P w K mg base CX0 2 CF "asked" (spAsked CF)) (m_Field_ways : Met P w K mg base CX0 1 CF "ways" (spF_ways CF)) : FnOk P w K mg base CX0 3 f fd ["field", "states", "value"] (sp_behind_any CF) := by
  refine F.ok scbehind_any (fun vs H Q E h => ?_) (fun cdv A outer s H vs Q E hr h => ?_)
  · obtain ⟨v, ⟨lf, p, wv, l, f, rk, bs, rfl, _⟩, _⟩ := h
    rfl
  · obtain ⟨v, ⟨lf, p, wv, l, fl, rk, bs, rfl, hF, ok, hp, so, rfl⟩, ret⟩ := h
    obtain ⟨A, hL⟩ := id hF
    refine ⟨_, (pss_cons (ps_set (i := 3) scbehind_any.nd rfl (Or.inl rfl) (pe_lst pa_nil))
      (pss_cons (ps_for PassesOwn.never rfl (piList K (pv 1)) (pg_name (i := 4) scbehind_any.nd rfl (Or.inl rfl))
        (pss_one (ps_if (pt_cmpR op_eq (pix K (pfld K (pv 0)) (pv 4)) (pv 2) (nomark _))
        (pss_one (ps_expr (papp K (pv 3) (pv 4))))
        (pss_one (ps_if (pin K (pv 2) (pmt m_Field_asked hr (by decide) (pv 0) (pa_cons (pv 4) pa_nil)))
        (pss_one (ps_expr (pext K (pv 3) (pmt m_Field_ways hr (by decide) (pv 0) (pa_cons (pv 4) (pa_cons (pv 2) pa_nil))))))
        pss_nil)))))
      (pss_one (ps_ret (psortedSet w T.sorted (psetL w T.set (pv 3))))))), ?_⟩
    have n64 := ok.n64
    have n2 := ok.n2
    have l63 := so.few n64
    refine q_asgL (el_lst ea_nil (by decide)) fun b H1 nb e1 hb => ?_
    refine q_forLn (xs := vnats l) (ev_var rfl) (sq_of (e1 _ _ hp)) (fun i σ' H' => ∃ v4 : Option V, σ' = [some (.ref lf), some (.ref p), some (.int (wv : Int)), some (.ref b), v4] ∧ Ex H H' ∧ H' b = some (.lst (vnats (NM.gath fl wv (l.take i)))))
      (fun H2 e2 => ⟨none, rfl, e1.trans e2, e2 _ _ hb⟩) (fun i σ' H' _ ⟨v4, _, e3, _⟩ => sq_of (e3 _ _ hp)) ?_ ?_
    · rintro i x σ' H' hi ⟨v4, rfl, e2, hb2⟩
      rw [vnats, List.getElem?_map] at hi
      cases ht : l[i]? with
      | none => rw [ht] at hi; cases hi
      | some t =>
        rw [ht] at hi
        have : x = .int (t : Int) := (Option.some.inj hi).symm
        subst this
        have tl := so.lt t (List.mem_of_getElem? ht)
        have gl := NM.gath_len n64 (by omega) wv (l.take i)
        have tk : (l.take i).length ≤ 63 := by rw [List.length_take]; omega
        have eg : NM.gath fl wv (l.take (i + 1)) = NM.gath fl wv (l.take i) ++ NM.beh1 fl wv t := by
          unfold NM.gath
          rw [NM.take_snoc ht, List.flatMap_append, List.flatMap_cons, List.flatMap_nil, List.append_nil]
        refine s_if (b := decide (Vbenaf.valueOf fl t = some wv)) (et_test (ev_is (ev_op (v_ix (fl := fl) (ev_fld (ev_var rfl) (e2 _ _ hL.o) T.cF T.nTable fF_table) (e2 _ _ hL.t) (ev_var rfl) ok tl) (ev_var rfl) (rv_eq rfl)) (NM.bl_vI_eq _ _))) (fun hc H3 e3 => ?_) (fun hc H3 e3 => ?_)
        · have e : NM.beh1 fl wv t = [t] := if_pos (of_decide_eq_true hc)
          refine s_app (e3 _ _ hb2) (ev_var rfl) (ev_var rfl) (by rw [vnats_len]; omega) fun H4 e4 => ?_
          refine ⟨_, rfl, Ex.mut (e2.trans (e3.trans e4)) nb, ?_⟩
          rw [upd_same, eg, e, vnats, vnats, List.map_append]
          rfl
        · have e23 := e2.trans e3
          refine s_when (b := (Vbenaf.asked fl t).contains wv) (et_test (ev_is (ev_opVL (ev_var (i := 2) rfl) (el_mth (ev_var rfl) (e23 _ _ hL.o) (fF_no (by decide +kernel)) (ea_one (ev_var rfl)) (pL.sp fun H4 e4 => ⟨lf, t, fl, rk, bs, rfl, hF.ex (e23.trans e4), ok, tl, rfl⟩)) fun q H4 hq e4 => rv_isL (sq_of hq) rfl (flat_nats _)) (by rw [inV_nats]))) (fun hn H4 e4 => ?_) (fun hn H4 e4 => ?_)
          · have e : NM.beh1 fl wv t = Vbenaf.ways fl t wv := (if_neg (of_decide_eq_false hc)).trans (if_pos hn)
            have e24 := e23.trans e4
            have wl := NM.ways_len fl t wv
            refine s_extN (xs := vnats (NM.gath fl wv (l.take i))) (ys := vnats (Vbenaf.ways fl t wv)) (e4 _ _ (e3 _ _ hb2)) (ev_var rfl) (el_mth (ev_var rfl) (e24 _ _ hL.o) (fF_no (by decide +kernel)) (ea_two (ev_var rfl) (ev_var rfl)) (pL.sp fun H5 e5 => ⟨lf, t, wv, fl, rk, bs, rfl, hF.ex (e24.trans e5), ok, tl, rfl⟩)) (by rw [vnats_len, vnats_len]; omega) fun H5 e5 => ?_
            refine ⟨_, rfl, Ex.mut (e24.trans e5) nb, ?_⟩
            rw [upd_same, eg, e, vnats, vnats, vnats, List.map_append]
          · have e : NM.beh1 fl wv t = [] := (if_neg (of_decide_eq_false hc)).trans (if_neg (by rw [hn]; decide))
            refine ⟨_, rfl, e23.trans e4, ?_⟩
            rw [eg, e, List.append_nil]
            exact e4 _ _ (e3 _ _ hb2)
    · rintro σ' H' ⟨v4, rfl, e2, hb2⟩
      rw [vnats_len, List.take_length] at hb2
      have gl := NM.gath_len n64 (by omega) wv l
      have so2 := NM.stepB_ok so wv
      exact s_retL (el_sortedSet (ev_var rfl) hb2 (by omega) so2.up (fun x => (NM.mem_stepB so.lt).symm) (so2.few n64)) fun q H3 nq e3 hq => ret q H3 (fresh_back e2 nq) (e2.trans e3) hq
-- def may_be(field, state, row):
--     behind = [[state]]
--     for value in row:
--         behind.append(behind_any(field, behind[-1], value))
--     return behind
-- slots 0:field 1:state 2:row 3:behind 4:value
abbrev smay_be : Stmt := top 63
theorem scmay_be : FnScope ["field", "state", "row", "behind", "value"] ["field", "state", "row"] (defScope smay_be) := ⟨rfl, rfl, rfl, by decide +kernel, rfl, by decide +kernel, by decide +kernel⟩
def sp_may_be (K : PySem.W.Frag) (CF : Addr) : Sp := fun vs H Q _ => ∃ (lf r : Addr) (s : Nat) (row : List Nat) (f : Fld) (rk : List Int) (bs : List (List Int)), vs = [.ref lf, .int s, .ref r] ∧ FldW CF H lf f rk bs ∧ FBk f ∧ s < Vbenaf.states f ∧ H r = some (.lst (vnats row)) ∧ row.length ≤ 2000 ∧
  ∀ p rs H', H p = none → Ex H H' → H' p = some (.lst (vrefs rs)) → Rows H' rs ((NM.mbs f [s] row).map NM.nI) → Q (.ref p) H'
theorem ok_may_be {f : Addr} {fd : FuncData} (F : Fun K "may_be" "may_be" smay_be f fd) (T : TxtL K mg CF) (c_behind_any : Cal P w K mg base CX0 3 "behind_any" (sp_behind_any CF)) : FnOk P w K mg base CX0 4 f fd ["field", "state", "row"] (sp_may_be K CF) := by
  refine F.ok scmay_be (fun vs H Q E h => ?_) (fun cdv A outer s H vs Q E hr h => ?_)
  · obtain ⟨lf, r, st, row, f, rk, bs, rfl, _⟩ := h
    rfl
  · obtain ⟨lf, r, st, row, fl, rk, bs, rfl, hF, ok, hs, hrow, hrl, ret⟩ := h
    refine ⟨_, (pss_cons (ps_set (i := 3) scmay_be.nd rfl (Or.inl rfl) (pe_lst (pa_cons (pe_lst (pa_cons (pv 1) pa_nil)) pa_nil)))
      (pss_cons (ps_for PassesOwn.never rfl (piList K (pv 2)) (pg_name (i := 4) scmay_be.nd rfl (Or.inl rfl))
        (pss_one (ps_expr (papp K (pv 3) (pc c_behind_any hr (by decide) (by rfl) (pa_cons (pv 0) (pa_cons (pix K (pv 3) (pe_un un_neg pe_int)) (pa_cons (pv 4) pa_nil))))))))
      (pss_one (ps_ret (pv 3))))), ?_⟩
    have n64 := ok.n64
    refine q_asgN (en_lst1 (xs := vnats [st]) (el_lst (ea_one (ev_var rfl)) (Nat.le_of_ble_eq_true rfl))) fun b H1 nb e1 hq => ?_
    obtain ⟨q, hb, hq, nq, nqb⟩ := hq
    show tSeq _ _ _ [some (.ref lf), some (.int (st : Int)), some (.ref r), some (.ref b), none] _
    refine q_forLn (xs := vnats row) (ev_var rfl) (sq_of (e1 _ _ hrow)) (fun i σ' H' => ∃ (rs : List Addr) (v4 : Option V), σ' = [some (.ref lf), some (.int (st : Int)), some (.ref r), some (.ref b), v4] ∧ Ex H H' ∧ H' b = some (.lst (vrefs rs)) ∧ Rows H' rs ((NM.mbs fl [st] (row.take i)).map NM.nI) ∧ ∀ x ∈ rs, x ≠ b)
      (fun H2 e2 => ⟨[q], none, rfl, e1.trans e2, e2 _ _ hb, ⟨e2 _ _ (by rw [vints_nI]; exact hq), trivial⟩, fun x hx => by rw [List.mem_singleton] at hx; rw [hx]; exact nqb⟩) (fun i σ' H' _ ⟨rs, v4, _, e3, _⟩ => sq_of (e3 _ _ hrow)) ?_ ?_
    · rintro i x σ' H' hi ⟨rs, v4, rfl, e2, hb2, hr2, hne⟩
      rw [vnats, List.getElem?_map] at hi
      cases ht : row[i]? with
      | none => rw [ht] at hi; cases hi
      | some t =>
        rw [ht] at hi
        have : x = .int (t : Int) := (Option.some.inj hi).symm
        subst this
        have il := (List.getElem?_eq_some_iff.mp ht).1
        have tk : (row.take i).length = i := by rw [List.length_take]; omega
        have ml : (NM.mbs fl [st] (row.take i)).length = i + 1 := by rw [NM.mbs_len, tk]
        have rl := hr2.len
        rw [List.length_map, ml] at rl
        have hlast : (NM.mbs fl [st] (row.take i))[i]? = some (Vbenaf.mayBe fl [st] (row.take i)) := by
          have z := NM.mbs_get fl (row.take i) [st] (row.take i).length (Nat.le_refl _)
          rw [List.take_length, tk] at z
          exact z
        obtain ⟨q2, hq2, hl2⟩ := hr2.get (i := i) (l := NM.nI (Vbenaf.mayBe fl [st] (row.take i))) (by rw [List.getElem?_map, hlast]; rfl)
        rw [vints_nI] at hl2
        have er : rs = rs.take i ++ [q2] := by
          have z := NM.take_snoc hq2
          rw [← rl, List.take_length] at z
          exact z
        have hat : atI (vrefs rs) (-1) = some (V.ref q2) := by
          rw [er, vrefs, List.map_append]
          exact atI_last _ _
        have so := NM.mayBe_ok (row.take i) [st] (SOk.one hs)
        refine s_appL (xs := vrefs rs) (ys := vnats (NM.stepB fl (Vbenaf.mayBe fl [st] (row.take i)) t)) hb2 (ev_var rfl) (el_call (ea_cons (ev_var rfl) (ea_two (ev_op (ev_var rfl) (ev_is (ev_un ev_c ru_neg) rfl) (rv_ixL (sq_of hb2) hat)) (ev_var rfl))) (pL.sp fun H3 e3 => ⟨lf, q2, t, _, fl, rk, bs, rfl, hF.ex (e2.trans e3), ok, e3 _ _ hl2, so, rfl⟩)) (by rw [vrefs_len]; omega) fun p H3 np e3 hp => ?_
        have npb : p ≠ b := fun z => by rw [z, hb2] at np; cases np
        refine ⟨rs ++ [p], _, rfl, Ex.mut (e2.trans e3) nb, ?_, ?_, ?_⟩
        · rw [upd_same, vrefs, vrefs, List.map_append]
          rfl
        · rw [NM.take_snoc ht, NM.mbs_snoc, List.map_append]
          refine Rows.snoc ?_ (Rows.upd (Rows.ex e3 hr2) hne)
          rw [upd_ne npb, vints_nI]
          exact hp
        · intro x hx
          rcases List.mem_append.mp hx with hx | hx
          · exact hne x hx
          · rw [List.mem_singleton] at hx
            rw [hx]
            exact npb
    · rintro σ' H' ⟨rs, v4, rfl, e2, hb2, hr2, hne⟩
      rw [vnats_len, List.take_length] at hr2
      exact s_ret (ev_var rfl) fun H3 e3 => ret b rs H3 nb (e2.trans e3) (e3 _ _ hb2) (hr2.ex e3)
-- def farthest(field, state, row):
--     return len([states for states in may_be(field, state, row) if len(states) > 0]) - 1
-- slots 0:field 1:state 2:row 3:states
abbrev sfarthest : Stmt := top 64
theorem scfarthest : FnScope ["field", "state", "row", "states"] ["field", "state", "row"] (defScope sfarthest) := ⟨rfl, rfl, rfl, by decide +kernel, rfl, by decide +kernel, by decide +kernel⟩
def sp_farthest (K : PySem.W.Frag) (CF : Addr) : Sp := pV fun vs H v => ∃ (lf r : Addr) (s : Nat) (row : List Nat) (f : Fld) (rk : List Int) (bs : List (List Int)), vs = [.ref lf, .int s, .ref r] ∧ FldW CF H lf f rk bs ∧ FBk f ∧ s < Vbenaf.states f ∧ H r = some (.lst (vnats row)) ∧ row.length ≤ 2000 ∧ v = .int (Vbenaf.farthest f s row : Int)
theorem ok_farthest {f : Addr} {fd : FuncData} (F : Fun K "farthest" "farthest" sfarthest f fd) (T : TxtL K mg CF) (c_may_be : Cal P w K mg base CX0 4 "may_be" (sp_may_be K CF)) : FnOk P w K mg base CX0 5 f fd ["field", "state", "row"] (sp_farthest K CF) := by
  refine F.ok scfarthest (fun vs H Q E h => ?_) (fun cdv A outer s H vs Q E hr h => ?_)
  · obtain ⟨v, ⟨lf, r, st, row, f, rk, bs, rfl, _⟩, _⟩ := h
    rfl
  · obtain ⟨v, ⟨lf, r, st, row, fl, rk, bs, rfl, hF, ok, hs, hrow, hrl, rfl⟩, ret⟩ := h
    refine ⟨_, (pss_one (ps_ret (pe_op op_sub (plen K T.len (pe_lc (own := [("states", 3)]) (g := (gName 3)) (by rfl) scfarthest.nd (piList K (pc c_may_be hr (by decide) (by rfl) (pa_cons (pv 0) (pa_cons (pv 1) (pa_cons (pv 2) pa_nil))))) (blkOk_by (own := [("states", 3)]) (N := ["field", "state", "row", "states"]) (sc := defScope sfarthest) (by decide +kernel)) (fun _ _ _ _ _ => (pg_name (i := 3) scfarthest.nd rfl (Or.inl rfl))) (fun _ _ _ _ _ => (pts_one (pt_cmpR op_gt (plen K T.len (pv 3)) pe_int (nomark _)))) (fun _ _ _ _ _ => (pv 3)))) pe_int))), ?_⟩
    have hN : EvN (tCall (sp_may_be K CF) [] E0 (tCons (tVar 0) (tCons (tVar 1) (tCons (tVar 2) tNil)))) (L2.start ["field", "state", "row", "states"] [.ref lf, .int (st : Int), .ref r]) H fun p H' => ∃ rs, H' p = some (.lst (vrefs rs)) ∧ Rows H' rs ((NM.mbs fl [st] row).map NM.nI) := fun H1 e1 Q2 k =>
      (ea_cons (ev_var rfl) (ea_two (ev_var rfl) (ev_var rfl)) : EvA _ _ H [.ref lf, .int (st : Int), .ref r]) H1 e1 _ fun H2 e2 => sp_nil (sp := sp_may_be K CF) (vs := [.ref lf, .int (st : Int), .ref r]) ⟨lf, r, st, row, fl, rk, bs, rfl, hF.ex (e1.trans e2), ok, hs, (e1.trans e2) _ _ hrow, hrl, fun p rs H3 np e3 hp hrr => k p H3 (fresh_back e2 np) (e2.trans e3) ⟨rs, hp, hrr⟩⟩
    refine s_ret (ev_is (ev_op (ev_lenRows (g := fun l => decide (0 < l.length)) hN (by rw [List.length_map, NM.mbs_len]; omega) (fun x => rfl) (fun q l H1 hq => et_test (ev_is (ev_op (ev_lenE (n := (l.length : Int)) (ev_var rfl) hq (by rw [vints_len])) ev_c rv_I0) (by
      congr 1
      rw [Bool.eq_iff_iff, decide_eq_true_eq, decide_eq_true_eq]
      omega))) (fun q H1 => ev_var rfl)) ev_c rv_I0) ?_) fun H1 e1 => ret H1 e1
    rw [← NM.far_eq, List.filter_map, List.length_map]
    have e : ((fun (l : List Int) => decide (0 < l.length)) ∘ NM.nI) = NM.nonE := by
      funext l
      show decide (0 < (NM.nI l).length) = _
      unfold NM.nI NM.nonE
      rw [List.length_map]
    rw [e]
-- def lost_row(field, states, own, longest):
--     if longest == 0:
--         return []
--     for value in field.asked_from(own):
--         behind = behind_any(field, states, value)
--         if len(behind) == 0:
--             return [value]
--         rest = lost_row(field, behind, value, longest - 1)
--         if len(rest) > 0:
--             return [value] + rest
--     return []
-- slots 0:field 1:states 2:own 3:longest 4:value 5:behind 6:rest
abbrev slost_row : Stmt := top 65
theorem sclost_row : FnScope ["field", "states", "own", "longest", "value", "behind", "rest"] ["field", "states", "own", "longest"] (defScope slost_row) := ⟨rfl, rfl, rfl, by decide +kernel, rfl, by decide +kernel, by decide +kernel⟩
def spLost (CF : Addr) : Nat → Sp
  | 0 => fun _ _ _ _ => False
  | d + 1 => pL fun vs H xs => ∃ (lf p : Addr) (k : Nat) (l : List Nat) (o : Option Nat) (f : Fld) (rk : List Int) (bs : List (List Int)), vs = [.ref lf, .ref p, .int (vI o), .int (k : Int)] ∧ FldW CF H lf f rk bs ∧ FBk f ∧ H p = some (.lst (vnats l)) ∧ SOk f l ∧ k ≤ d ∧ k ≤ 3 ∧ xs = vnats ((Vbenaf.stuckFrom f k l o).getD [])
theorem ok_lost0 {k : Nat} {f : Addr} {fd : FuncData} {ps : List Str} : FnOk P w K mg base CX0 k f fd ps (spLost CF 0) := ⟨fun _ _ _ _ h => h.elim, fun _ _ _ _ _ _ _ _ _ _ _ _ _ h => h.elim⟩
theorem ok_lost_row {f : Addr} {fd : FuncData} {d lvl : Nat} (F : Fun K "lost_row" "lost_row" slost_row f fd) (T : TxtL K mg CF) (m_Field_asked_from : Met P w K mg base CX0 1 CF "asked_from" (spF_asked_from CF)) (c_behind_any : Cal P w K mg base CX0 3 "behind_any" (sp_behind_any CF)) (c_lost_row : Cal P w K mg base CX0 lvl "lost_row" (spLost CF d)) (h3 : 3 ≤ lvl) : FnOk P w K mg base CX0 (lvl + 1) f fd ["field", "states", "own", "longest"] (spLost CF (d + 1)) := by
  refine F.ok sclost_row (fun vs H Q E h => ?_) (fun cdv A outer s H vs Q E hr h => ?_)
  · obtain ⟨v, ⟨lf, p, k, l, o, f, rk, bs, rfl, _⟩, _⟩ := h
    rfl
  · obtain ⟨v, ⟨lf, p, k, l, o, fl, rk, bs, rfl, hF, ok, hp, so, hkd, hk3, rfl⟩, ret⟩ := h
    obtain ⟨A, hL⟩ := id hF
    refine ⟨_, (pss_cons (ps_if (pt_cmpR op_eq (pv 3) pe_int (nomark _))
        (pss_one (ps_ret (pe_lst pa_nil)))
        pss_nil)
      (pss_cons (ps_for PassesOwn.never rfl (piList K (pmt m_Field_asked_from hr (by omega) (pv 0) (pa_cons (pv 2) pa_nil))) (pg_name (i := 4) sclost_row.nd rfl (Or.inl rfl))
        (pss_cons (ps_set (i := 5) sclost_row.nd rfl (Or.inl rfl) (pc c_behind_any hr (by omega) (by rfl) (pa_cons (pv 0) (pa_cons (pv 1) (pa_cons (pv 4) pa_nil)))))
      (pss_cons (ps_if (pt_cmpR op_eq (plen K T.len (pv 5)) pe_int (nomark _))
        (pss_one (ps_ret (pe_lst (pa_cons (pv 4) pa_nil))))
        pss_nil)
      (pss_cons (ps_set (i := 6) sclost_row.nd rfl (Or.inl rfl) (pc c_lost_row hr (by omega) (by rfl) (pa_cons (pv 0) (pa_cons (pv 5) (pa_cons (pv 4) (pa_cons (pe_op op_sub (pv 3) pe_int) pa_nil))))))
      (pss_one (ps_if (pt_cmpR op_gt (plen K T.len (pv 6)) pe_int (nomark _))
        (pss_one (ps_ret (pe_op op_cat (pe_lst (pa_cons (pv 4) pa_nil)) (pv 6))))
        pss_nil))))))
      (pss_one (ps_ret (pe_lst pa_nil))))), ?_⟩
    have v8 := ok.v8
    cases k with
    | zero =>
      refine q_when (b := true) (et_test (ev_is (ev_op (ev_var rfl) ev_c (rv_eq rfl)) rfl)) (fun _ H1 e1 => ?_) (fun h => by cases h)
      exact s_retL (el_lst ea_nil (by decide)) fun q H2 nq e2 hq => ret q H2 (fresh_back e1 nq) (e1.trans e2) hq
    | succ k =>
      rw [NM.stuck_succ] at ret
      refine q_when (b := false) (et_test (ev_is (ev_op (ev_var rfl) ev_c (rv_eq rfl)) (congrArg V.bl (decide_eq_false (by
        rw [V.int.injEq]
        omega))))) (fun h => by cases h) (fun _ H1 e1 => ?_)
      refine q_forNLn (xs := vnats (Vbenaf.askedOf fl o)) (el_mth (ev_var rfl) (e1 _ _ hL.o) (fF_no (by decide +kernel)) (ea_one (ev_var rfl)) (pL.sp fun H2 e2 => ⟨lf, o, fl, rk, bs, rfl, hF.ex (e1.trans e2), ok, rfl⟩))
        (fun q i σ' H' => ∃ v4 v5 v6, σ' = [some (.ref lf), some (.ref p), some (.int (vI o)), some (.int ((k + 1 : Nat) : Int)), v4, v5, v6] ∧ Ex H H' ∧ H' q = some (.lst (vnats (Vbenaf.askedOf fl o))) ∧ ((Vbenaf.askedOf fl o).take i).findSome? (NM.stuck1 fl k l) = none)
        (fun q H2 nq e2 hq => ⟨none, none, none, rfl, e1.trans e2, hq, rfl⟩) (fun q i σ' H' _ ⟨_, _, _, _, _, h1, _⟩ => sq_of h1) ?_ ?_
      · rintro q i x σ' H' hi ⟨v4, v5, v6, rfl, e2, hq, hn⟩
        rw [vnats, List.getElem?_map] at hi
        cases ht : (Vbenaf.askedOf fl o)[i]? with
        | none => rw [ht] at hi; cases hi
        | some t =>
          rw [ht] at hi
          have : x = .int (t : Int) := (Option.some.inj hi).symm
          subst this
          have found : ∀ r, NM.stuck1 fl k l t = some r → (Vbenaf.askedOf fl o).findSome? (NM.stuck1 fl k l) = some r := fun r hr => NM.find_of_takeS hn ht hr
          refine q_asgL (el_call (ea_cons (ev_var rfl) (ea_two (ev_var rfl) (ev_var rfl))) (pL.sp fun H3 e3 => ⟨lf, p, t, l, fl, rk, bs, rfl, hF.ex (e2.trans e3), ok, (e2.trans e3) _ _ hp, so, rfl⟩)) fun m H3 nm e3 hm => ?_
          have e23 := e2.trans e3
          have som := NM.stepB_ok so t
          have e1s : NM.stuck1 fl k l t = if (NM.stepB fl l t).isEmpty = true then some [t] else (Vbenaf.stuckFrom fl k (NM.stepB fl l t) (some t)).map fun r => t :: r := rfl
          refine q_when (b := (NM.stepB fl l t).isEmpty) (et_test (ev_is (ev_op (ev_lenE (n := ((NM.stepB fl l t).length : Int)) (ev_var rfl) hm (by rw [vnats_len])) ev_c (rv_eq rfl)) (by
            congr 1
            rw [Bool.eq_iff_iff, decide_eq_true_eq, V.int.injEq, List.isEmpty_iff_length_eq_zero]
            omega))) (fun hc H4 e4 => ?_) (fun hc H4 e4 => ?_)
          · rw [found [t] (by rw [e1s, if_pos hc])] at ret
            exact s_retL (xs := vnats [t]) (el_lst (ea_one (ev_var rfl)) (Nat.le_of_ble_eq_true rfl)) fun z H5 nz e5 hz => ret z H5 (fresh_back (e23.trans e4) nz) ((e23.trans e4).trans e5) hz
          · rw [if_neg (by rw [hc]; decide)] at e1s
            have e24 := e23.trans e4
            cases d with
            | zero => omega
            | succ d =>
              refine q_asgL (xs := vnats ((Vbenaf.stuckFrom fl k (NM.stepB fl l t) (some t)).getD [])) (el_call (ea_cons (ev_var rfl) (ea_cons (ev_var rfl) (ea_two (ev_var rfl) (ev_is (ev_op (ev_var rfl) ev_c rv_I0) (show V.int (((k + 1 : Nat) : Int) - 1) = V.int (k : Int) by congr 1; omega))))) (pL.sp fun H5 e5 => ⟨lf, m, k, NM.stepB fl l t, some t, fl, rk, bs, rfl, hF.ex (e24.trans e5), ok, (e4.trans e5) _ _ hm, som, by omega, by omega, rfl⟩)) fun r H5 nr e5 hr5 => ?_
              have e25 := e24.trans e5
              cases hst : Vbenaf.stuckFrom fl k (NM.stepB fl l t) (some t) with
              | none =>
                rw [hst] at hr5 e1s
                refine s_when (b := false) (et_test (ev_is (ev_op (ev_lenE (n := 0) (ev_var rfl) hr5 rfl) ev_c rv_I0) rfl)) (fun h => by cases h) (fun _ H6 e6 => ?_)
                refine ⟨_, _, _, rfl, e25.trans e6, e6 _ _ (e5 _ _ (e4 _ _ (e3 _ _ hq))), ?_⟩
                rw [NM.take_snoc ht, NM.find_snocS hn, e1s]
                rfl
              | some r0 =>
                rw [hst] at hr5 e1s
                have hne := NM.stuck_ne fl k _ _ r0 hst
                have hl0 : 0 < r0.length := List.length_pos_iff.mpr hne.1
                have hl3 := hne.2
                refine s_when (b := true) (et_test (ev_is (ev_op (ev_lenE (n := (r0.length : Int)) (ev_var rfl) hr5 (by rw [vnats_len]; rfl)) ev_c rv_I0) (by
                  congr 1
                  rw [decide_eq_true_eq]
                  show (r0.length : Int) > 0
                  omega))) (fun _ H6 e6 => ?_) (fun h => by cases h)
                rw [found (t :: r0) (by rw [e1s]; rfl)] at ret
                exact s_retL (xs := vnats [t] ++ vnats r0) (el_catNV (xs := vnats [t]) (el_lst (ea_one (ev_var rfl)) (Nat.le_of_ble_eq_true rfl)) (ev_var rfl) (e6 _ _ hr5) (by
                  show (vnats [t]).length + (vnats r0).length ≤ _
                  rw [vnats_len, vnats_len]
                  show 1 + r0.length ≤ _
                  omega)) fun z H7 nz e7 hz => ret z H7 (fresh_back (e25.trans e6) nz) ((e25.trans e6).trans e7) hz
      · rintro q σ' H' ⟨v4, v5, v6, rfl, e2, hq, hn⟩
        rw [vnats_len, List.take_length] at hn
        rw [hn] at ret
        exact s_retL (el_lst ea_nil (by decide)) fun z H3 nz e3 hz => ret z H3 (fresh_back e2 nz) (e2.trans e3) hz
end
end N
set_option Elab.async false
set_option linter.all false
set_option maxRecDepth 100000
set_option maxHeartbeats 4000000
namespace N
open PySem PySem.Spec PyProof.Rows L2 Evl
/-! ### xs[i] += e of a list -/
def rIxN (K : PySem.W.Frag) : V → V → Hp → VK → Prop := fun x y H Q => ∃ p xs, ∃ j : Nat, ∃ v, x = .ref p ∧ y = .int (j : Int) ∧ SqL K H p xs ∧ xs[j]? = some v ∧ Q v H
theorem pg_listN {X : Cx} : PGet X (rIxN X.K) := by
  intro pins s σ H o i ov iv Q I ro ri h
  obtain ⟨p, xs, j, z, rfl, rfl, hq, hx, q⟩ := h
  cases ro
  obtain ⟨t, rfl⟩ := ri
  obtain ⟨its, r, pl, hz⟩ := I.list hq
  obtain ⟨w, ew, rw'⟩ := r.get hx
  have hl := r.length
  have hn := line63
  have hj := (List.getElem?_eq_some_iff.mp hx).1
  exact wpAny_getItem_list pl.isList (by omega) (by omega) (by rw [Int.toNat_natCast]; simpa using ew) ⟨z, H, I, rw', q⟩
section
variable {X : Cx} (K : PySem.W.Frag) {o i e : Expr} {to ti te : TE} {tpos pos : Pos}
theorem psaugL (ho : PE X o to) (hi : PE X i ti) (he : PE X e te)
    (ha : ∀ ov iv new, augStore i ov iv new = (do holding [new, ov, iv] (setItem ov iv new); release [new, ov, iv] []; pure .next) := by intros; rfl) (hK : X.K = K := by rfl) : PS X (.AugAssign (.Subscript o i tpos) .Add e pos) (tAugS to ti te (rIxN K) (ipI fun i j => i + j) rSetL) := by
  subst hK
  exact ps_augS ho hi pg_listN he ip_add set_list ha
end
section
variable {K : PySem.W.Frag} {σ : L2.St} {H : Hp} {to ti te : TE} {D : Ends} {tz : TS}
theorem q_augL {p : Addr} {xs : List V} {j : Nat} {a b : Int} (ho : Ev to σ H (.ref p)) (hi : Ev ti σ H (.int (j : Int))) (he : Ev te σ H (.int b)) (hp : H p = some (.lst xs)) (hx : xs[j]? = some (.int a))
    (k : ∀ H1, Ex H H1 → tz D σ (upd H1 p (.lst (xs.set j (.int (a + b)))))) : tSeq (tAugS to ti te (rIxN K) (ipI fun i j => i + j) rSetL) tz D σ H :=
  ho H (Ex.refl _) _ fun H1 e1 => hi H1 e1 _ fun H2 e2 => ⟨p, xs, j, .int a, rfl, rfl, sq_of ((e1.trans e2) _ _ hp), hx, he H2 (e1.trans e2) _ fun H3 e3 => ⟨a, b, rfl, rfl, p, xs, (j : Int), j, rfl, rfl, ((e1.trans e2).trans e3) _ _ hp, ixN_nat (List.getElem?_eq_some_iff.mp hx).1, k H3 ((e1.trans e2).trans e3)⟩⟩
end
end N
set_option Elab.async false
set_option linter.all false
set_option maxRecDepth 100000
set_option maxHeartbeats 4000000
namespace N
open PySem PySem.Spec PyProof.Rows L2 Evl
open NM (Thing want thingsOf Fits vI rI FOk FBk gF tab tabR dig dgo)
/-- the ranks that are needed are there -/
def RkGood (f : Fld) (rk : List Int) : Prop := rk.length = Vbenaf.states f ∧ ∀ s, s < Vbenaf.states f → s = 0 ∨ Vbenaf.valueOf f s ≠ none → rk[s]? = some (rI (Vbenaf.rank f s))
abbrev MT (h v : Nat) : Nat := (v + 1) ^ (2 ^ h - 1)
theorem st_gF (h v : Nat) (t : List (Option Nat)) : Vbenaf.states (gF h v t) = 2 ^ h := rfl
theorem pow8 {h : Nat} (h3 : h ≤ 3) : 2 ^ h ≤ 8 := by
  have z : 2 ^ h ≤ 2 ^ 3 := Nat.pow_le_pow_right (by decide) h3
  simpa using z
section
variable {P : Program} {w : World} {K : PySem.W.Frag} {mg : Str → Option Value} {base : Heap} {CF CT CD CC CR CM : Addr}
-- def table_count(holes, count):
--     tables = 1
--     for state in range(1, 1 << holes):
--         tables = tables * (count + 1)
--     return tables
-- slots 0:holes 1:count 2:tables 3:state
abbrev stable_count : Stmt := top 69
theorem sctable_count : FnScope ["holes", "count", "tables", "state"] ["holes", "count"] (defScope stable_count) := ⟨rfl, rfl, rfl, by decide +kernel, rfl, by decide +kernel, by decide +kernel⟩
def sp_table_count : Sp := pV fun vs _ x => ∃ h v : Nat, vs = [.int h, .int v] ∧ 1 ≤ h ∧ h ≤ 3 ∧ v ≤ 8 ∧ x = .int (MT h v : Nat)
theorem mt_small {h v i : Nat} (h3 : h ≤ 3) (v8 : v ≤ 8) (hi : i ≤ 2 ^ h - 1) : (v + 1) ^ i ≤ 4782969 := by
  have h8 := pow8 h3
  have z1 : (v + 1) ^ i ≤ 9 ^ i := Nat.pow_le_pow_left (by omega) i
  have z2 : 9 ^ i ≤ 9 ^ 7 := Nat.pow_le_pow_right (by decide) (by omega)
  have e : (9 : Nat) ^ 7 = 4782969 := by decide
  omega
theorem ok_table_count {f : Addr} {fd : FuncData} (F : Fun K "table_count" "table_count" stable_count f fd) (T : Txt K mg CF) : FnOk P w K mg base CX0 1 f fd ["holes", "count"] sp_table_count := by
  refine F.ok sctable_count (fun vs H Q E h => ?_) (fun cdv A outer s H vs Q E hr h => ?_)
  · obtain ⟨x, ⟨h, v, rfl, _⟩, _⟩ := h
    rfl
  · obtain ⟨x, ⟨h, v, rfl, h1, h3, v8, rfl⟩, ret⟩ := h
    refine ⟨_, (pss_cons (ps_set (i := 2) sctable_count.nd rfl (Or.inl rfl) pe_int)
      (pss_cons (ps_for PassesOwn.never rfl (pi_range2 (by rfl) T.range (pa_cons pe_int (pa_cons (pe_op op_shl pe_int (pv 0)) pa_nil))) (pg_name (i := 3) sctable_count.nd rfl (Or.inl rfl))
        (pss_one (ps_set (i := 2) sctable_count.nd rfl (Or.inl rfl) (pe_op op_mul (pv 2) (pe_op op_add (pv 1) pe_int)))))
      (pss_one (ps_ret (pv 2))))), ?_⟩
    have h8 := pow8 h3
    have hp := NM.two_pow_pos h
    refine q_asg ev_c fun H1 e1 => ?_
    refine q_forR2 (lo := 1) (n := ((2 ^ h : Nat) : Int)) (ea_two ev_c (ev_is (ev_op ev_c (ev_var rfl) (rv_I (C := CPow) ⟨by omega, by omega, by decide⟩)) (by
      show V.int (1 * 2 ^ ((h : Int)).toNat) = _
      rw [Int.toNat_natCast, Int.one_mul]
      push_cast
      rfl))) (by omega) (fun i σ' H' => ∃ v3 : Option V, σ' = [some (.int (h : Int)), some (.int (v : Int)), some (.int (((v + 1) ^ i : Nat) : Int)), v3] ∧ Ex H H') (fun H2 e2 => ⟨none, rfl, e1.trans e2⟩) ?_ ?_
    · rintro i σ' H' hi ⟨v3, rfl, e2⟩
      have hi2 : i ≤ 2 ^ h - 1 := by omega
      have sm := mt_small h3 v8 hi2
      refine s_asg (v := .int (((v + 1) ^ (i + 1) : Nat) : Int)) (ev_is (ev_op (ev_var rfl) (ev_op (ev_var rfl) ev_c rv_I0) (rv_I (.inl ⟨by omega, by omega⟩))) (by
        rw [Nat.pow_succ, Int.natCast_mul]
        rfl)) fun H3 e3 => ?_
      exact ⟨_, rfl, e2.trans e3⟩
    · rintro σ' H' ⟨v3, rfl, e2⟩
      have en : (((2 ^ h : Nat) : Int) - 1).toNat = 2 ^ h - 1 := by omega
      rw [en]
      exact s_ret (ev_var rfl) fun H3 e3 => ret H3 (e2.trans e3)
-- def __init__(self, holes, count):
--     Field.__init__(self, holes, [str(value) for value in range(count)], [], [NO_VALUE] * (1 << holes))
-- slots 0:self 1:holes 2:count 3:value
abbrev sTrial_init : Stmt := inClass (top 68) 0
theorem scTrial_init : FnScope ["self", "holes", "count", "value"] ["self", "holes", "count"] (defScope sTrial_init) := ⟨rfl, rfl, rfl, by decide +kernel, rfl, by decide +kernel, by decide +kernel⟩
def spT_init (CT : Addr) : Sp := fun vs H Q _ => ∃ (a dx : Addr) (h v : Nat), vs = [.ref a, .int h, .int v] ∧ H a = some (.ins CT dx []) ∧ 1 ≤ h ∧ h ≤ 3 ∧ 2 ≤ v ∧ v ≤ 8 ∧
  ∀ H' A, ExB a H H' → FldL CT (lessL H H') a A (gF h v (tab h v 0)) (NM.rkAll (gF h v (tab h v 0))) (NM.bsAll (gF h v (tab h v 0))) → FDa A → Q .non H'
theorem okT_init {f f_Field_init : Addr} {fd fdF : FuncData} (F : Fun K "__init__" "Trial.__init__" sTrial_init f fd) (T : Txt K mg CT) (q_Field_init : ClsFn K mg "Field" "__init__" CF f_Field_init) (F_Field_init : FnOk P w K mg base CX0 5 f_Field_init fdF ["self", "holes", "names", "lets", "table"] (spF_init K CT)) (b_Field_init : Binds K fdF ["self", "holes", "names", "lets", "table"] []) : FnOk P w K mg base CX0 6 f fd ["self", "holes", "count"] (spT_init CT) := by
  refine F.ok scTrial_init (fun vs H Q E h => ?_) (fun cdv A outer s H vs Q E hr h => ?_)
  · obtain ⟨a, dx, h, v, rfl, _⟩ := h
    rfl
  · obtain ⟨a, dx, h, v, rfl, ha, h1, h3, v2, v8, ret⟩ := h
    refine ⟨_, (pss_one (ps_expr (pclsf q_Field_init F_Field_init b_Field_init hr (by decide) (by rfl) (pa_cons (pv 0) (pa_cons (pv 1) (pa_cons (pe_lc (own := [("value", 3)]) (g := (gName 3)) (by rfl) scTrial_init.nd (pi_range1 (by rfl) T.range (pa_cons (pv 2) pa_nil)) (blkOk_by (own := [("value", 3)]) (N := ["self", "holes", "count", "value"]) (sc := defScope sTrial_init) (by decide +kernel)) (fun _ _ _ _ _ => (pg_name (i := 3) scTrial_init.nd rfl (Or.inl rfl))) (fun _ _ _ _ _ => pts_nil) (fun _ _ _ _ _ => (pstr T.str (pv 3)))) (pa_cons (pe_lst pa_nil) (pa_cons (pe_op op_rep (pe_lst (pa_cons (pgi T.NO_VALUE) pa_nil)) (pe_op op_shl pe_int (pv 1))) pa_nil)))))))), ?_⟩
    have h8 := pow8 h3
    have hnames : EvL (tLc (iRng1 (tCons (tVar 2) tNil)) (gName 3) tYes (tCB rStrI (tCons (tVar 3) tNil)) [3]) (L2.start ["self", "holes", "count", "value"] [.ref a, .int (h : Int), .int (v : Int)]) H (vstrs ((List.range v).map fun i => [48 + i])) := by
      have z := el_lcR1m (ta := tCons (tVar 2) tNil) (t := tYes) (te := tCB rStrI (tCons (tVar 3) tNil)) (σ := L2.start ["self", "holes", "count", "value"] [.ref a, .int (h : Int), .int (v : Int)]) (H := H) (j := 3) (vs := [3]) (n := v) (g := fun _ => true) (u := fun i => V.str (S [48 + i])) (ea_one (ev_var rfl)) (by omega) (fun x => rfl) (fun i H1 _ _ => fun H2 _ Q q => q H2 (Ex.refl _)) (fun i H1 _ hi _ => by
        have y := ev_strI (σ := (wipe (L2.start ["self", "holes", "count", "value"] [.ref a, .int (h : Int), .int (v : Int)]) [3]).set 3 (some (.int (i : Int)))) (H := H1) (te := tVar 3) (n := i) (ev_var rfl) (by omega)
        rw [TL.numL_lt (by omega)] at y
        exact y)
      rw [List.filter_eq_self.mpr (fun _ _ => rfl)] at z
      have e : vstrs ((List.range v).map fun i => [48 + i]) = (List.range v).map fun i => V.str (S [48 + i]) := by
        unfold vstrs
        rw [List.map_map]
        rfl
      rw [e]
      exact z
    have htab : ∀ {σ : L2.St} {H1 : Hp}, σ[1]? = some (some (.int (h : Int))) → EvL (tOp rRep (tLst (tCons (tC (.int (-1))) tNil)) (tOp (rI CPow fun i j => V.int (i * 2 ^ j.toNat)) (tC (.int 1)) (tVar 1))) σ H1 ((tab h v 0).map fun o => V.int (vI o)) := fun {σ H1} hσ => by
      have e : (tab h v 0).map (fun o => V.int (vI o)) = (List.replicate (2 ^ h) [V.int (-1)]).flatten := by
        rw [NM.tab_zero, List.map_replicate, flat_rep]
        rfl
      rw [e]
      exact el_rep (n := 2 ^ h) (el_lst (ea_one ev_c) (by decide)) (fun H2 e2 => ev_is (ev_op ev_c (ev_var hσ) (rv_I (C := CPow) ⟨by omega, by omega, by decide⟩)) (by
        show V.int (1 * 2 ^ ((h : Int)).toNat) = _
        rw [Int.toNat_natCast, Int.one_mul]
        push_cast
        rfl)) (by simp; omega) (by omega)
    refine ⟨_, rfl, _, rfl, ?_⟩
    refine hnames H (Ex.refl _) _ fun n0 H1 nn0 e1 hn0 => ?_
    refine (el_lst ea_nil (by decide) : EvL (tLst tNil) (L2.start ["self", "holes", "count", "value"] [.ref a, .int (h : Int), .int (v : Int)]) H1 []) H1 (Ex.refl _) _ fun l0 H2 nl0 e2 hl0 => ?_
    refine htab (H1 := H2) rfl H2 (Ex.refl _) _ fun t0 H3 nt0 e3 ht0 => ?_
    have e03 := e1.trans (e2.trans e3)
    refine ⟨a, dx, n0, l0, t0, [], gF h v (tab h v 0), rfl, e03 _ _ ha, e3 _ _ (e2 _ _ hn0), e3 _ _ hl0, trivial, ht0, NM.tab_ok h1 h3 v8, fun H' A' eb hL d => ?_⟩
    exact ret H' A' ((ExB.of e03).trans eb) (hL.ex (lessL_old e03)) d
end
end N
set_option Elab.async false
set_option linter.all false
set_option maxRecDepth 100000
set_option maxHeartbeats 4000000
namespace N
open PySem PySem.Spec PyProof.Rows L2 Evl
open NM (Thing want thingsOf Fits vI rI FOk FBk gF tab tabR dig dgo)
section
variable {P : Program} {w : World} {K : PySem.W.Frag} {mg : Str → Option Value} {base : Heap} {CF CT CD CC CR CM : Addr}
theorem vI_dgo (d : Nat) : vI (dgo d) = (d : Int) - 1 := NM.dgo_vI d
/-- what stands above a state in tables alike there -/
theorem val_tab {h v c s : Nat} (hs : s + 1 < 2 ^ h) : Vbenaf.valueOf (gF h v (tab h v c)) (s + 1) = dgo (dig (v + 1) c s) := NM.val_of (NM.tab_get (by omega))
theorem val_tabR {h v c i s : Nat} (hs : s + 1 < 2 ^ h) : Vbenaf.valueOf (gF h v (tabR h v c i)) (s + 1) = if s < i then none else dgo (dig (v + 1) c s) := NM.val_of (NM.tabR_get (by omega))
-- def advance(self):
--     for state in range(1, self.state_count()):
--         if self.table[state] < len(self.names) - 1:
--             self.table[state] += 1
--             self.settle(state)
--             self.settle(0)
--             return True
--         self.table[state] = NO_VALUE
--     return False
-- slots 0:self 1:state
abbrev sTrial_advance : Stmt := inClass (top 68) 1
theorem scTrial_advance : FnScope ["self", "state"] ["self"] (defScope sTrial_advance) := ⟨rfl, rfl, rfl, by decide +kernel, rfl, by decide +kernel, by decide +kernel⟩
def spT_advance (CT : Addr) : Sp := fun vs H Q _ => ∃ (a : Addr) (A : FAd) (h v c : Nat) (rk : List Int) (bs : List (List Int)), vs = [.ref a] ∧ FldL CT H a A (gF h v (tab h v c)) rk bs ∧ FDa A ∧ (1 ≤ h ∧ h ≤ 3 ∧ 2 ≤ v ∧ v ≤ 8) ∧ c < MT h v ∧ RkGood (gF h v (tab h v c)) rk ∧ bs.length = 2 ^ h ∧
  (c + 1 < MT h v → ∀ H' A' rk' bs', ExS [A.lt, A.lr, A.lb] H H' → A'.lt = A.lt → A'.lr = A.lr → A'.lb = A.lb → FldL CT H' a A' (gF h v (tab h v (c + 1))) rk' bs' → FDa A' → RkGood (gF h v (tab h v (c + 1))) rk' → bs'.length = 2 ^ h → Q (.bl true) H') ∧
  (c + 1 = MT h v → ∀ H' t, ExS [A.lt, A.lr, A.lb] H H' → FldL CT H' a A (gF h v t) rk bs → Q (.bl false) H')
theorem okT_advance {f : Addr} {fd : FuncData} (F : Fun K "advance" "Trial.advance" sTrial_advance f fd) (T : Txt K mg CT) (m_Trial_state_count : Met P w K mg base CX0 1 CT "state_count" (spF_state_count CT)) (m_Trial_settle : Met P w K mg base CX0 4 CT "settle" (spF_settle CT)) : FnOk P w K mg base CX0 5 f fd ["self"] (spT_advance CT) := by
  refine F.ok scTrial_advance (fun vs H Q E h => ?_) (fun cdv A outer s H vs Q E hr h => ?_)
  · obtain ⟨a, A, h, v, c, rk, bs, rfl, _⟩ := h
    rfl
  · obtain ⟨a, A, h, v, c, rk, bs, rfl, hL, d, ⟨h1, h3, v2, v8⟩, hc, hrk, hbs, rett, retf⟩ := h
    refine ⟨_, (pss_cons (ps_for PassesOwn.never rfl (pi_range2 (by rfl) T.range (pa_cons pe_int (pa_cons (pmt0 m_Trial_state_count hr (by decide) (pv 0)) pa_nil))) (pg_name (i := 1) scTrial_advance.nd rfl (Or.inl rfl))
        (pss_cons (ps_if (pt_cmpR op_lt (pix K (pfld K (pv 0)) (pv 1)) (pe_op op_sub (plen K T.len (pfld K (pv 0))) pe_int) (nomark _))
        (pss_cons (psaugL K (pfld K (pv 0)) (pv 1) pe_int)
      (pss_cons (ps_expr (pmt m_Trial_settle hr (by decide) (pv 0) (pa_cons (pv 1) pa_nil)))
      (pss_cons (ps_expr (pmt m_Trial_settle hr (by decide) (pv 0) (pa_cons pe_int pa_nil)))
      (pss_one (ps_ret pe_bl)))))
        pss_nil)
      (pss_one (ps_asg (pgi T.NO_VALUE) (pg_sub (pfld K (pv 0)) (pv 1) set_list)))))
      (pss_one (ps_ret pe_bl))), ?_⟩
    have h8 := pow8 h3
    have hp := NM.two_pow_pos h
    have ok0 : FBk (gF h v (tab h v c)) := NM.tab_ok h1 h3 v8
    refine q_forR2 (lo := 1) (n := ((2 ^ h : Nat) : Int)) (ea_two ev_c (ev_mth (ev_var rfl) hL.o (fF_no (by decide +kernel)) ea_nil (pV.sp fun H1 e1 => ⟨a, _, rk, bs, rfl, ⟨A, hL.ex e1⟩, ok0, rfl⟩))) (by omega)
      (fun i σ' H' => ∃ v1 : Option V, σ' = [some (.ref a), v1] ∧ FldL CT H' a A (gF h v (tabR h v c i)) rk bs ∧ ExS [A.lt, A.lr, A.lb] H H' ∧ (c + 1) % (v + 1) ^ i = 0)
      (fun H1 e1 => ⟨none, rfl, by rw [NM.tabR_zero]; exact hL.ex e1, ExS.of e1, by rw [Nat.pow_zero]; exact Nat.mod_one _⟩) ?_ ?_
    · rintro i σ' H' hi ⟨v1, rfl, hLi, es, hm⟩
      have hi2 : i < 2 ^ h - 1 := by omega
      have es1 : ((1 : Int) + (i : Int)) = ((i + 1 : Nat) : Int) := by omega
      show tSeq _ _ _ [some (.ref a), some (.int ((1 : Int) + (i : Int)))] H'
      rw [es1]
      have oki : FBk (gF h v (tabR h v c i)) := NM.tabR_ok h1 h3 v8
      have hst : i + 1 < Vbenaf.states (gF h v (tabR h v c i)) := by rw [st_gF]; omega
      have hval : Vbenaf.valueOf (gF h v (tabR h v c i)) (i + 1) = dgo (dig (v + 1) c i) := by
        rw [val_tabR (by omega), if_neg (Nat.lt_irrefl i)]
      have hgt : (tabR h v c i)[i + 1]? = some (dgo (dig (v + 1) c i)) := by
        rw [NM.tabR_get hi2, if_neg (Nat.lt_irrefl i)]
      have hxs : ((tabR h v c i).map fun o => V.int (vI o))[i + 1]? = some (.int ((dig (v + 1) c i : Int) - 1)) := by
        rw [List.getElem?_map, hgt, ← vI_dgo]
        rfl
      refine q_when (b := decide (dig (v + 1) c i < v)) (et_test (ev_is (ev_op (v_ix (fl := gF h v (tabR h v c i)) (ev_fld (ev_var rfl) hLi.o T.cF T.nTable fF_table) hLi.t (ev_var rfl) oki hst) (ev_op (ev_lenE (n := (v : Int)) (ev_fld (ev_var rfl) hLi.o T.cF T.nNames fF_names) hLi.n (by rw [vstrs_len, NM.gF_len])) ev_c rv_I0) rv_I0) (by
        rw [hval, vI_dgo]
        congr 1
        rw [Bool.eq_iff_iff, decide_eq_true_eq, decide_eq_true_eq]
        omega))) (fun hb H1 e1 => ?_) (fun hb H1 e1 => ?_)
      · -- the digit is counted on
        have hd := of_decide_eq_true hb
        have hL1 := hLi.ex e1
        refine q_augL (j := i + 1) (b := 1) (ev_fld (ev_var rfl) hL1.o T.cF T.nTable fF_table) (ev_var rfl) ev_c hL1.t hxs fun H2 e2 => ?_
        have hL2 := (hL1.ex e2).setT (j := i + 1) (v := some (dig (v + 1) c i)) d
        have ev : vI (some (dig (v + 1) c i)) = (dig (v + 1) c i : Int) - 1 + 1 := by
          show (dig (v + 1) c i : Int) = _
          omega
        rw [ev] at hL2
        have eT : ({ gF h v (tabR h v c i) with table := (gF h v (tabR h v c i)).table.set (i + 1) (some (dig (v + 1) c i)) } : Fld) = gF h v (tab h v (c + 1)) := by
          rw [NM.tab_next hm hi2 hd]
          rfl
        rw [eT] at hL2
        have es2 : ExS [A.lt, A.lr, A.lb] H (upd H2 A.lt (.lst (((gF h v (tabR h v c i)).table.map fun v => V.int (vI v)).set (i + 1) (.int ((dig (v + 1) c i : Int) - 1 + 1))))) := (es.trans (ExS.of (e1.trans e2))).trans (ExS.upd _ _ (List.mem_cons_self ..))
        show tSeq _ _ _ [some (.ref a), some (.int ((i + 1 : Nat) : Int))] (upd H2 A.lt (.lst (((gF h v (tabR h v c i)).table.map fun v => V.int (vI v)).set (i + 1) (.int ((dig (v + 1) c i : Int) - 1 + 1)))))
        generalize upd H2 A.lt (.lst (((gF h v (tabR h v c i)).table.map fun v => V.int (vI v)).set (i + 1) (.int ((dig (v + 1) c i : Int) - 1 + 1)))) = G at hL2 es2 ⊢
        have ok1 : FBk (gF h v (tab h v (c + 1))) := NM.tab_ok h1 h3 v8
        have b0 : 0 < v + 1 := by omega
        have hd' : dig (v + 1) c i < v + 1 - 1 := by omega
        -- above the digit all is as it was
        have above : ∀ t, i + 1 < t → t < 2 ^ h → Vbenaf.valueOf (gF h v (tab h v (c + 1))) t = Vbenaf.valueOf (gF h v (tab h v c)) t := fun t ht1 ht2 => by
          obtain ⟨u, rfl⟩ : ∃ u, t = u + 1 := ⟨t - 1, by omega⟩
          rw [val_tab ht2, val_tab ht2, NM.inc_high b0 hm hd' (by omega)]
        have rabove : ∀ t, i + 1 < t → t < 2 ^ h → Vbenaf.rank (gF h v (tab h v (c + 1))) t = Vbenaf.rank (gF h v (tab h v c)) t := fun t ht1 ht2 =>
          NM.rank_alike (f := gF h v (tab h v (c + 1))) (g := gF h v (tab h v c)) rfl (by rw [NM.gF_len, NM.gF_len]) rfl ht2 fun u hu1 hu2 => above u (by omega) hu2
        have below : ∀ t, 0 < t → t < i + 1 → Vbenaf.valueOf (gF h v (tab h v (c + 1))) t = none := fun t ht1 ht2 => by
          obtain ⟨u, rfl⟩ : ∃ u, t = u + 1 := ⟨t - 1, by omega⟩
          rw [val_tab (by omega), NM.inc_low b0 hm (by omega)]
          rfl
        have rl : rk.length = 2 ^ h := hrk.1
        have hrk1 : RkFrom (gF h v (tab h v (c + 1))) rk (i + 1) := fun t ht1 ht2 hv => by
          rw [rabove t ht1 ht2]
          rw [above t ht1 ht2] at hv
          exact hrk.2 t ht2 (.inr hv)
        refine ⟨.ref a, rfl, a, A.dx, _, rfl, hL2.o, fF_no (by decide +kernel), _, rfl, ?_⟩
        refine ⟨a, i + 1, A, _, rk, bs, rfl, hL2, ok1, d, (by rw [st_gF]; omega), hrk1, by omega, by omega, fun q3 H3 fq3 es3 hL3 d3 => ?_⟩
        have hrk2 : RkFrom (gF h v (tab h v (c + 1))) (rk.set (i + 1) (rI (Vbenaf.rank (gF h v (tab h v (c + 1))) (i + 1)))) 0 := fun t ht1 ht2 hv => by
          rcases Nat.lt_trichotomy t (i + 1) with z | z | z
          · exact absurd (below t ht1 z) hv
          · subst z
            rw [List.getElem?_set_self (by omega)]
          · rw [List.getElem?_set_ne (by omega)]
            exact hrk1 t z ht2 hv
        show tSeq _ _ _ [some (.ref a), some (.int ((i + 1 : Nat) : Int))] H3
        refine ⟨.ref a, rfl, a, A.dx, _, rfl, hL3.o, fF_no (by decide +kernel), ?_⟩
        refine ⟨a, 0, _, _, _, _, rfl, hL3, ok1, d3, (by rw [st_gF]; omega), hrk2, by rw [List.length_set]; omega, by rw [List.length_set]; omega, fun q4 H4 fq4 es4 hL4 d4 => ?_⟩
        have cl := NM.tab_not_last hm hi2 hd hc
        have sub : ∀ x ∈ [A.lb, A.lr], x ∈ [A.lt, A.lr, A.lb] := fun x hx => by
          rcases List.mem_cons.mp hx with z | z
          · rw [z]; simp
          · rw [List.mem_singleton] at z
            rw [z]; simp
        have es14 : ExS [A.lt, A.lr, A.lb] H H4 := es2.trans ((es3.mono sub).trans (es4.mono sub))
        refine (s_ret (D := { nx := fun x H' => Q V.non H', rt := Q }) (σ := [some (.ref a), some (.int ((i + 1 : Nat) : Int))]) (te := tC (.bl true)) ev_c fun H5 e5 => ?_)
        refine rett cl H5 { A with rs := (A.rs.set (i + 1) q3).set 0 q4 } ((rk.set (i + 1) (rI (Vbenaf.rank (gF h v (tab h v (c + 1))) (i + 1)))).set 0 (rI (Vbenaf.rank (gF h v (tab h v (c + 1))) 0))) ((bs.set (i + 1) (NM.bestRow (gF h v (tab h v (c + 1))) (i + 1))).set 0 (NM.bestRow (gF h v (tab h v (c + 1))) 0)) (es14.trans (ExS.of e5)) rfl rfl rfl (hL4.ex e5) d4 ⟨by rw [List.length_set, List.length_set]; exact rl, fun t ht hv => ?_⟩ (by rw [List.length_set, List.length_set]; exact hbs)
        by_cases t0 : t = 0
        · subst t0
          rw [List.getElem?_set_self (by rw [List.length_set]; omega)]
        · rw [List.getElem?_set_ne (by omega)]
          rcases hv with hv | hv
          · exact absurd hv t0
          · exact hrk2 t (by omega) ht hv
      · -- the digit is put away
        have hd := of_decide_eq_false hb
        have hL1 := hLi.ex e1
        refine s_setL (l := A.lt) (j := i + 1) hL1.t ev_c (ev_fld (ev_var rfl) hL1.o T.cF T.nTable fF_table) (ev_var rfl) (by
          rw [List.length_map]
          show i + 1 < (tabR h v c i).length
          rw [NM.tabR_len]
          omega) fun H2 e2 => ?_
        have hL2 := (hL1.ex e2).setT (j := i + 1) (v := none) d
        have eT : ({ gF h v (tabR h v c i) with table := (gF h v (tabR h v c i)).table.set (i + 1) none } : Fld) = gF h v (tabR h v c (i + 1)) := by
          rw [NM.tabR_succ hi2]
          rfl
        rw [eT] at hL2
        exact ⟨_, rfl, hL2, (es.trans (ExS.of (e1.trans e2))).trans (ExS.upd _ _ (List.mem_cons_self ..)), NM.inc_next (by omega) hm (by omega)⟩
    · rintro σ' H' ⟨v1, rfl, hLi, es, hm⟩
      have en : (((2 ^ h : Nat) : Int) - 1).toNat = 2 ^ h - 1 := by omega
      rw [en] at hm hLi
      have cl := NM.tab_last hm hc
      exact s_ret ev_c fun H3 e3 => retf cl H3 _ (es.trans (ExS.of e3)) (hLi.ex e3)
structure TxtB (K : PySem.W.Frag) (mg : Str → Option Value) (CT : Addr) : Prop extends Txt K mg CT where
  MOST_TABLES : gi mg "MOST_TABLES" 20000
theorem q_make {C : Addr} {sp : Sp} {ta : TA} {i : Nat} {tz : TS} {D : Ends} {σ : L2.St} {H : Hp} {vs : List V} (ha : EvA ta σ H vs) (h : ∀ H1, Ex H H1 → ∀ x dx, H1 x = none → H1 dx = none → dx ≠ x → sp (.ref x :: vs) (upd (upd H1 dx (.own x)) x (.ins C dx [])) (fun v H2 => v = .non ∧ tz D (σ.set i (some (.ref x))) H2) E0) : tSeq (tAsg (tMake C sp [] E0 ta) (gName i)) tz D σ H :=
  ha H (Ex.refl _) _ fun H1 e1 => by
    intro x dx nx nd ne
    rw [List.append_nil]
    exact h H1 e1 x dx nx nd ne
/-- what the search holds -/
def WBF (CT x : Addr) (H0 : Hp) (h v m : Nat) (σ' : L2.St) (H' : Hp) : Prop := ∃ (A : FAd) (c : Nat) (rk : List Int) (bs : List (List Int)) (tl : Addr), σ' = [some (.int (h : Int)), some (.int (v : Int)), some (.ref x), some (.int ((NM.bt h v (c + 1)).1 : Int)), some (.ref tl)] ∧ FldL CT H' x A (gF h v (tab h v c)) rk bs ∧ FDa A ∧ RkGood (gF h v (tab h v c)) rk ∧ bs.length = 2 ^ h ∧
  Ex H0 H' ∧ (H0 A.lt = none ∧ H0 A.lr = none ∧ H0 A.lb = none) ∧ H' tl = some (.lst ((NM.bt h v (c + 1)).2.map fun o => V.int (vI o))) ∧ (tl ≠ A.lt ∧ tl ≠ A.lr ∧ tl ≠ A.lb) ∧ c < MT h v ∧ m = MT h v - c
-- def best_field(holes, count):
--     if table_count(holes, count) > MOST_TABLES:
--         raise TooManyTables()
--     trial = Trial(holes, count)
--     rank = trial.ranks[0]
--     table = list(trial.table)
--     while trial.advance():
--         if trial.ranks[0] > rank:
--             rank = trial.ranks[0]
--             table = list(trial.table)
--     return Field(holes, trial.names, [], table)
-- slots 0:holes 1:count 2:trial 3:rank 4:table
abbrev sbest_field : Stmt := top 70
theorem scbest_field : FnScope ["holes", "count", "trial", "rank", "table"] ["holes", "count"] (defScope sbest_field) := ⟨rfl, rfl, rfl, by decide +kernel, rfl, by decide +kernel, by decide +kernel⟩
def sp_best_field (CF CM : Addr) : Sp := fun vs H Q E => ∃ h v : Nat, vs = [.int h, .int v] ∧ (1 ≤ h ∧ h ≤ 3 ∧ 2 ≤ v ∧ v ≤ 8) ∧
  if MT h v ≤ 20000 then (∀ p H', H p = none → Ex H H' → FldW CF H' p (gF h v (Vbenaf.bestTable h v).2) (NM.rkAll (gF h v (Vbenaf.bestTable h v).2)) (NM.bsAll (gF h v (Vbenaf.bestTable h v).2)) → Q (.ref p) H') else Ref CM (-9) H E
theorem ok_best_field {f : Addr} {fd : FuncData} (F : Fun K "best_field" "best_field" sbest_field f fd) (T : TxtB K mg CT) (c_table_count : Cal P w K mg base CX0 1 "table_count" sp_table_count) (k_Trial : Mak P w K mg base CX0 6 "Trial" CT (spT_init CT)) (k_Field : Mak P w K mg base CX0 5 "Field" CF (spF_init K CF)) (m_Trial_advance : Met P w K mg base CX0 5 CT "advance" (spT_advance CT)) (x_TooManyTables : Er P w K mg base 2 "TooManyTables" CM (spE K (-9))) : FnOk P w K mg base (L2.CX P w) 8 f fd ["holes", "count"] (sp_best_field CF CM) := by
  refine F.okX scbest_field (fun vs H Q E h => ?_) (fun cdv A outer s H vs Q E hr h => ?_)
  · obtain ⟨h, v, rfl, _⟩ := h
    rfl
  · obtain ⟨h, v, rfl, ⟨h1, h3, v2, v8⟩, hR⟩ := h
    refine ⟨_, (pss_cons (ps_if (pt_cmpR op_gt (pc c_table_count hr (by decide) (by rfl) (pa_cons (pv 0) (pa_cons (pv 1) pa_nil))) (pgi T.MOST_TABLES) (nomark _))
        (pss_one (psr0 x_TooManyTables (takes_of rfl rfl rfl rfl) hr (by decide) (by rfl)))
        pss_nil)
      (pss_cons (ps_set (i := 2) scbest_field.nd rfl (Or.inl rfl) (pmk k_Trial hr (by decide) (by rfl) (pa_cons (pv 0) (pa_cons (pv 1) pa_nil))))
      (pss_cons (ps_set (i := 3) scbest_field.nd rfl (Or.inl rfl) (pix K (pfld K (pv 2)) pe_int))
      (pss_cons (ps_set (i := 4) scbest_field.nd rfl (Or.inl rfl) (plist K T.list (pfld K (pv 2))))
      (pss_cons (ps_while (passes_of rfl) (pt_val (pmt0 m_Trial_advance hr (by decide) (pv 2)))
        (pss_one (ps_if (pt_cmpR op_gt (pix K (pfld K (pv 2)) pe_int) (pv 3) (nomark _))
        (pss_cons (ps_set (i := 3) scbest_field.nd rfl (Or.inl rfl) (pix K (pfld K (pv 2)) pe_int))
      (pss_one (ps_set (i := 4) scbest_field.nd rfl (Or.inl rfl) (plist K T.list (pfld K (pv 2))))))
        pss_nil)))
      (pss_one (ps_ret (pmk k_Field hr (by decide) (by rfl) (pa_cons (pv 0) (pa_cons (pfld K (pv 2)) (pa_cons (pe_lst pa_nil) (pa_cons (pv 4) pa_nil)))))))))))), ?_⟩
    have h8 := pow8 h3
    have hp := NM.two_pow_pos h
    refine q_when (b := decide (20000 < MT h v)) (et_test (ev_is (ev_op (ev_call (ea_two (ev_var rfl) (ev_var rfl)) (pV.sp fun H1 e1 => ⟨h, v, rfl, h1, h3, v8, rfl⟩)) ev_c rv_I0) (by
      congr 1
      rw [Bool.eq_iff_iff, decide_eq_true_eq, decide_eq_true_eq]
      omega))) (fun hb H1 e1 => ?_) (fun hb H1 e1 => ?_)
    · rw [if_neg (by have := of_decide_eq_true hb; omega)] at hR
      exact raise_R x_TooManyTables (Ref.mono hR e1)
    · rw [if_pos (by have := of_decide_eq_false hb; omega)] at hR
      -- the first table
      refine q_make (vs := [.int (h : Int), .int (v : Int)]) (ea_two (ev_var rfl) (ev_var rfl)) fun H2 e2 x dx nx nd ne => ?_
      refine ⟨x, dx, h, v, rfl, upd_same, h1, h3, v2, v8, fun H3 A eb hL d => ⟨rfl, ?_⟩⟩
      have e23 : Ex H2 H3 := ex_make nx nd eb
      have e03 : Ex H H3 := e1.trans (e2.trans e23)
      have hm := ex_made (u := .own x) (o := .ins CT dx []) nx nd
      have fr : ∀ {l : Addr} {xs : List V}, (lessL (upd (upd H2 dx (.own x)) x (.ins CT dx [])) H3) l = some (.lst xs) → H l = none := fun {l xs} hl => by
        obtain ⟨n, g⟩ := lessL_get hl
        cases q : H l with
        | none => rfl
        | some o =>
          have z := e03 _ _ q
          rw [g] at z
          have z := Option.some.inj z
          subst z
          exact absurd (hm _ _ ((e1.trans e2) _ _ q)) (n xs)
      have frs : H A.lt = none ∧ H A.lr = none ∧ H A.lb = none := ⟨fr hL.t, fr hL.r, fr hL.b⟩
      replace hL := hL.ex (lessL_sub _ _)
      have ok0 : FBk (gF h v (tab h v 0)) := NM.tab_ok h1 h3 v8
      have hs0 : 0 < Vbenaf.states (gF h v (tab h v 0)) := hp
      have hb1 := NM.bt_one (h := h) v2
      have hr0 : Vbenaf.rank (gF h v (tab h v 0)) 0 = some 0 := by
        rw [NM.tab_zero]
        exact NM.rank_bare (by omega)
      show tSeq _ _ _ [some (.int (h : Int)), some (.int (v : Int)), some (.ref x), none, none] H3
      refine q_asg (v := .int ((NM.bt h v 1).1 : Int)) (ev_is (i_ix (j := 0) (ev_fld (ev_var rfl) hL.o T.cF T.nRanks fF_ranks) hL.r ev_c (NM.rkAll_get hs0)) (by rw [hr0, hb1]; rfl)) fun H4 e4 => ?_
      refine q_asgL (xs := (tab h v 0).map fun o => V.int (vI o)) (el_list (ev_fld (ev_var rfl) (e4 _ _ hL.o) T.cF T.nTable fF_table) (sq_of (e4 _ _ hL.t))) fun tl H5 ntl e5 htl => ?_
      have e35 := e4.trans e5
      have apart : ∀ {l : Addr} {xs : List V}, H3 l = some (.lst xs) → tl ≠ l := fun hl z => by
        rw [z] at ntl
        rw [e4 _ _ hl] at ntl
        cases ntl
      have mpos : 0 < MT h v := Nat.pow_pos (by omega)
      show tSeq _ _ _ [some (.int (h : Int)), some (.int (v : Int)), some (.ref x), some (.int ((NM.bt h v 1).1 : Int)), some (.ref tl)] H5
      refine ⟨WBF CT x H h v, ⟨MT h v, A, 0, _, _, tl, rfl, hL.ex e35, d, ⟨NM.rkAll_len _, fun s hs _ => NM.rkAll_get hs⟩, by unfold NM.bsAll; rw [List.length_map, List.length_range]; rfl, e03.trans e35, frs, by rw [htl, hb1], ⟨apart hL.t, apart hL.r, apart hL.b⟩, mpos, by omega⟩, ?_⟩
      rintro m σ' H' ⟨A', c, rk, bs, tl, rfl, hL', d', hrk, hbs, eH, frs', htl', tln, hc, rfl⟩
      refine ⟨.ref x, rfl, x, A'.dx, _, rfl, hL'.o, fF_no (by decide +kernel), ?_⟩
      have exH : ∀ {G : Hp}, ExS [A'.lt, A'.lr, A'.lb] H' G → Ex H G := fun es => Ex.transS eH es (fun y hy => by
        simp only [List.mem_cons, List.not_mem_nil, or_false] at hy
        rcases hy with z | z | z
        · rw [z]; exact frs'.1
        · rw [z]; exact frs'.2.1
        · rw [z]; exact frs'.2.2)
      have keep : ∀ {G : Hp} {y : Addr} {o : HO}, ExS [A'.lt, A'.lr, A'.lb] H' G → (y ≠ A'.lt ∧ y ≠ A'.lr ∧ y ≠ A'.lb) → H' y = some o → G y = some o := fun es n hy => es _ _ (by
        simp only [List.mem_cons, List.not_mem_nil, or_false]
        rintro (z | z | z)
        · exact n.1 z
        · exact n.2.1 z
        · exact n.2.2 z) hy
      refine ⟨x, A', h, v, c, rk, bs, rfl, hL', d', ⟨h1, h3, v2, v8⟩, hc, hrk, hbs, fun hc1 G A2 rk2 bs2 es q1 q2 q3 hL2 d2 hrk2 hbs2 => ⟨true, rfl, ?_⟩, fun hc1 G t es hL2 => ⟨false, rfl, ?_⟩⟩
      · -- a table more
        refine (if_pos rfl : (if true = true then _ else _) = _).mpr ?_
        refine ⟨fun σ2 H2 => ∃ m', m' < MT h v - c ∧ WBF CT x H h v m' σ2 H2, fun σ2 H2 z => z, ?_⟩
        have eG := exH es
        have htlG := keep es tln htl'
        have tln2 : tl ≠ A2.lt ∧ tl ≠ A2.lr ∧ tl ≠ A2.lb := by rw [q1, q2, q3]; exact tln
        have frs2 : H A2.lt = none ∧ H A2.lr = none ∧ H A2.lb = none := by rw [q1, q2, q3]; exact frs'
        obtain ⟨r, hr1⟩ := NM.tab_rank (h := h) v2 (c + 1)
        have hg0 : rk2[0]? = some (r : Int) := by
          have z := hrk2.2 0 hp (.inl rfl)
          rw [hr1] at z
          exact z
        have hbt := NM.bt_step hr1
        have rnk : ∀ {σ : L2.St} {G' : Hp}, Ex G G' → σ[2]? = some (some (.ref x)) → Ev (tOp (rIxL K) (tFld K (tVar 2) "ranks") (tC (.int 0))) σ G' (.int (r : Int)) := fun e hσ => i_ix (j := 0) (ev_fld (ev_var hσ) (e _ _ hL2.o) T.cF T.nRanks fF_ranks) (e _ _ hL2.r) ev_c hg0
        refine s_when (b := decide ((NM.bt h v (c + 1)).1 < r)) (et_test (ev_is (ev_op (rnk (Ex.refl _) rfl) (ev_var rfl) rv_I0) (by
          congr 1
          rw [Bool.eq_iff_iff, decide_eq_true_eq, decide_eq_true_eq]
          omega))) (fun hb H6 e6 => ?_) (fun hb H6 e6 => ?_)
        · rw [if_pos (of_decide_eq_true hb)] at hbt
          refine q_asg (rnk e6 rfl) fun H7 e7 => ?_
          refine s_asgL (xs := (tab h v (c + 1)).map fun o => V.int (vI o)) (el_list (ev_fld (ev_var rfl) ((e6.trans e7) _ _ hL2.o) T.cF T.nTable fF_table) (sq_of ((e6.trans e7) _ _ hL2.t))) fun tl2 H8 ntl2 e8 htl2 => ?_
          have e68 := e6.trans (e7.trans e8)
          have apart2 : ∀ {l : Addr} {xs : List V}, G l = some (.lst xs) → tl2 ≠ l := fun hl z => by
            rw [z] at ntl2
            rw [(e6.trans e7) _ _ hl] at ntl2
            cases ntl2
          exact ⟨MT h v - (c + 1), by omega, A2, c + 1, rk2, bs2, tl2, by rw [hbt]; rfl, hL2.ex e68, d2, hrk2, hbs2, eG.trans e68, frs2, by rw [htl2, hbt], ⟨apart2 hL2.t, apart2 hL2.r, apart2 hL2.b⟩, hc1, rfl⟩
        · rw [if_neg (of_decide_eq_false hb)] at hbt
          exact ⟨MT h v - (c + 1), by omega, A2, c + 1, rk2, bs2, tl, by rw [hbt], hL2.ex e6, d2, hrk2, hbs2, eG.trans e6, frs2, by rw [hbt]; exact e6 _ _ htlG, tln2, hc1, rfl⟩
      · -- all tables are gone through
        refine (if_neg (by decide) : (if false = true then _ else _) = _).mpr ?_
        have eG := exH es
        have htlG := keep es tln htl'
        have hbest : (Vbenaf.bestTable h v).2 = (NM.bt h v (c + 1)).2 := by rw [NM.bt_all, hc1]
        obtain ⟨_, c0, hc0⟩ := NM.bt_inv (h := h) v2 (c + 1)
        have okb : FBk (gF h v (Vbenaf.bestTable h v).2) := by
          rw [hbest, hc0]
          exact NM.tab_ok h1 h3 v8
        show tMake CF (spF_init K CF) [] E0 (tCons (tVar 0) (tCons (tFld K (tVar 2) "names") (tCons (tLst tNil) (tCons (tVar 4) tNil)))) [some (.int (h : Int)), some (.int (v : Int)), some (.ref x), some (.int ((NM.bt h v (c + 1)).1 : Int)), some (.ref tl)] G Q
        refine go_field2 (K := K) (Q := Q) (f := gF h v (Vbenaf.bestTable h v).2) (H := G) (fun Q2 k => ?_) okb fun q H7 nq e7 hW => hR q H7 (fresh_back eG nq) (eG.trans e7) (hW.ex (lessL_sub _ _))
        exact (ev_var rfl : Ev (tVar 0) [some (.int (h : Int)), some (.int (v : Int)), some (.ref x), some (.int ((NM.bt h v (c + 1)).1 : Int)), some (.ref tl)] G (.int (h : Int))) G (Ex.refl _) _ fun G1 g1 =>
          ev_fld (σ := [some (.int (h : Int)), some (.int (v : Int)), some (.ref x), some (.int ((NM.bt h v (c + 1)).1 : Int)), some (.ref tl)]) (ev_var rfl) hL2.o T.cF T.nNames fF_names G1 g1 _ fun G2 g2 => el_lst ea_nil (by decide) G2 (Ex.refl _) _ fun p2 G3 n3 g3 h3 => (ev_var rfl : Ev (tVar 4) [some (.int (h : Int)), some (.int (v : Int)), some (.ref x), some (.int ((NM.bt h v (c + 1)).1 : Int)), some (.ref tl)] G3 (.ref tl)) G3 (Ex.refl _) _ fun G4 g4 => by
            have g04 := g1.trans (g2.trans (g3.trans g4))
            exact k A'.ln p2 tl G4 g04 (g04 _ _ hL2.n) ⟨[], g4 _ _ h3, trivial⟩ (by
              show G4 tl = some (.lst ((Vbenaf.bestTable h v).2.map fun o => V.int (vI o)))
              rw [hbest]
              exact g04 _ _ htlG)
end
end N
set_option Elab.async false
set_option linter.all false
set_option maxRecDepth 100000
set_option maxHeartbeats 4000000
namespace N
open PySem PySem.Spec PyProof.Rows L2 Evl
open NM (Thing want thingsOf Fits vI rI FOk FBk SOk gF tab)
theorem ints_nat (row : List Nat) : (VbenCore.ints row).map Int.toNat = row := by
  unfold VbenCore.ints
  rw [List.map_map]
  exact List.map_id' row
theorem vints_ints (row : List Nat) : vints (VbenCore.ints row) = vnats row := by
  unfold vints vnats VbenCore.ints
  rw [List.map_map]
  rfl
def lA (i : Nat) (cs : List CV) : List Int := match cs[i]? with
  | some (.inl (.row l)) => l
  | _ => []
section
variable {σ : L2.St} {H : Hp} {te : TE}
/-- an object that is there at the end, of which P is known -/
def EvP (te : TE) (σ : L2.St) (H : Hp) (P : Addr → Hp → Prop) : Prop := ∀ H1, Ex H H1 → ∀ Q : VK, (∀ p H2, Ex H1 H2 → P p H2 → Q (.ref p) H2) → te σ H1 Q
theorem el_countedP {xs : List V} (h : EvP te σ H fun p H' => H' p = some (.lst xs)) (hz : xs.length ≤ 40000) : EvL (tCall sp_counted [] E0 (tCons te tNil)) σ H (.int (xs.length : Int) :: xs) := fun H1 e1 Q k =>
  h H1 e1 _ fun p H2 e2 hp => sp_nil (sp := sp_counted) (vs := [.ref p]) ⟨_, ⟨p, xs, rfl, hp, hz, rfl⟩, fun q H3 nq e3 hq => k q H3 (fresh_back e2 nq) (e2.trans e3) hq⟩
end
theorem go_call {sp : Sp} {ta : TA} {σ : L2.St} {H : Hp} {Q : VK} (h : ta σ H fun vs H1 => sp vs H1 Q E0) : tCall sp [] E0 ta σ H Q := by
  unfold tCall
  have e : (fun (vs : List V) (H1 : Hp) => sp (vs ++ []) H1 Q E0) = fun vs H1 => sp vs H1 Q E0 := funext fun vs => by rw [List.append_nil]
  rw [e]
  exact h
theorem go_cons {ta : TE} {tr : TA} {σ : L2.St} {H : Hp} {Q : List V → Hp → Prop} (h : ta σ H fun v H1 => tr σ H1 fun vs H2 => Q (v :: vs) H2) : tCons ta tr σ H Q := h
theorem go_op {r : R2} {ta tb : TE} {σ : L2.St} {H : Hp} {Q : VK} (h : ta σ H fun x H1 => tb σ H1 fun y H2 => r x y H2 Q) : tOp r ta tb σ H Q := h
section
variable {P : Program} {w : World} {K : PySem.W.Frag} {mg : Str → Option Value} {base : Heap} {CF CD CC CR CNA CHN CWW CM : Addr}
-- def call_lower(desk, given):
--     labels = given[0]
--     return judged(labels, states_not_borne(desk.field, labels))
-- slots 0:desk 1:given 2:labels
abbrev scall_lower : Stmt := top 87
theorem sccall_lower : FnScope ["desk", "given", "labels"] ["desk", "given"] (defScope scall_lower) := ⟨rfl, rfl, rfl, by decide +kernel, rfl, by decide +kernel, by decide +kernel⟩
def okL (st : Vbenaf.State) (cs : List CV) : Prop := ∃ d : List Int, cs = [.inl (.row d)] ∧ d.length = Vbenaf.states st.field
def dLower (st : Vbenaf.State) (cs : List CV) : Except Int (Vbenaf.State × List Int) := .ok (st, judge (lA 0 cs) (Vbenaf.badLower st.field (lA 0 cs)))
theorem ok_call_lower {f : Addr} {fd : FuncData} (F : Fun K "call_lower" "call_lower" scall_lower f fd) (T : TxtD K mg CD CC CF) (c_judged : Cal P w K mg base CX0 1 "judged" sp_judged) (c_states_not_borne : Cal P w K mg base CX0 4 "states_not_borne" (sp_not_borne CF)) : FnOk P w K mg base (L2.CX P w) 9 f fd ["desk", "given"] (sp_doer K CD CC CF CR okL dLower) := by
  refine F.okX sccall_lower (fun vs H Q E h => ?_) (fun cdv A outer s H vs Q E hr h => ?_)
  · obtain ⟨a, l, nl, ys, vs', st, cs, rfl, _⟩ := h
    rfl
  · obtain ⟨a, l, nl, ys, vs', st, cs, rfl, hnl, hd, hl, hcv, ⟨d, rfl, hdl⟩, ret⟩ := h
    refine ⟨_, (pss_cons (ps_set (i := 2) sccall_lower.nd rfl (Or.inl rfl) (pix K (pv 1) pe_int))
      (pss_one (ps_ret (pc c_judged hr (by decide) (by rfl) (pa_cons (pv 2) (pa_cons (pc c_states_not_borne hr (by decide) (by rfl) (pa_cons (pfld K (pv 0)) (pa_cons (pv 2) pa_nil))) pa_nil)))))), ?_⟩
    obtain ⟨dx, lf, lc, ha, hF, _⟩ := hd.ex
    replace ha := del_ex _ _ _ _ ha
    replace hF := hF.ex (del_ex _ _)
    obtain ⟨v1, rfl, p, rfl, hp⟩ := cvs1 hcv
    have n2 := hd.ok.n2
    refine q_asg (v := .ref p) (ev_op (ev_var rfl) ev_c (rv_ixL (sq_of hl) rfl)) fun H1 e1 => ?_
    show tRet _ _ [some (.ref a), some (.ref l), some (.ref p)] _
    refine s_retL (σ := [some (.ref a), some (.ref l), some (.ref p)]) (xs := vints (judge d (Vbenaf.badLower st.field d))) ?_ fun q H2 nq e2 hq => ret q H2 (fresh_back e1 nq) (ExT.of (e1.trans e2)) (hd.ex' (Ex.del (e1.trans e2) nl)) hq
    intro H2 e2 Q2 k
    refine go_call (go_cons ?_)
    refine (ev_var rfl : Ev (tVar 2) [some (.ref a), some (.ref l), some (.ref p)] H2 (.ref p)) H2 (Ex.refl _) _ fun H3 e3 => ?_
    have e03 := e1.trans (e2.trans e3)
    refine go_cons ?_
    refine (el_call (sp := sp_not_borne CF) (ea_two (ev_fld (ev_var rfl) (e03 _ _ ha) T.cD T.nField fD_field) (ev_var rfl)) (pL.sp fun H4 e4 => ⟨lf, p, st.field, d, _, _, rfl, hF.ex (e03.trans e4), hd.ok, (e03.trans e4) _ _ hp, hdl, rfl⟩) : EvL (tCall (sp_not_borne CF) [] E0 (tCons (tFld K (tVar 0) "field") (tCons (tVar 2) tNil))) [some (.ref a), some (.ref l), some (.ref p)] H3 (vnats (NM.badL st.field d))) H3 (Ex.refl _) _ fun r H4 nr e4 hr4 => ?_
    have e04 := e03.trans e4
    refine ⟨_, ⟨p, r, d, NM.badL st.field d, rfl, e04 _ _ hp, by omega, hr4, rfl⟩, fun z H5 nz e5 hz => ?_⟩
    have e35 := e3.trans (e4.trans e5)
    exact k z H5 (fresh_back (e3.trans e4) nz) e35 (by rw [hz, NM.badLower_eq])
-- def call_upper(desk, given):
--     labels = given[0]
--     return judged(labels, states_passed(desk.field, labels))
-- slots 0:desk 1:given 2:labels
abbrev scall_upper : Stmt := top 88
theorem sccall_upper : FnScope ["desk", "given", "labels"] ["desk", "given"] (defScope scall_upper) := ⟨rfl, rfl, rfl, by decide +kernel, rfl, by decide +kernel, by decide +kernel⟩
def dUpper (st : Vbenaf.State) (cs : List CV) : Except Int (Vbenaf.State × List Int) := .ok (st, judge (lA 0 cs) (Vbenaf.badUpper st.field (lA 0 cs)))
theorem ok_call_upper {f : Addr} {fd : FuncData} (F : Fun K "call_upper" "call_upper" scall_upper f fd) (T : TxtD K mg CD CC CF) (c_judged : Cal P w K mg base CX0 1 "judged" sp_judged) (c_states_passed : Cal P w K mg base CX0 4 "states_passed" (sp_passed CF)) : FnOk P w K mg base (L2.CX P w) 9 f fd ["desk", "given"] (sp_doer K CD CC CF CR okL dUpper) := by
  refine F.okX sccall_upper (fun vs H Q E h => ?_) (fun cdv A outer s H vs Q E hr h => ?_)
  · obtain ⟨a, l, nl, ys, vs', st, cs, rfl, _⟩ := h
    rfl
  · obtain ⟨a, l, nl, ys, vs', st, cs, rfl, hnl, hd, hl, hcv, ⟨d, rfl, hdl⟩, ret⟩ := h
    refine ⟨_, (pss_cons (ps_set (i := 2) sccall_upper.nd rfl (Or.inl rfl) (pix K (pv 1) pe_int))
      (pss_one (ps_ret (pc c_judged hr (by decide) (by rfl) (pa_cons (pv 2) (pa_cons (pc c_states_passed hr (by decide) (by rfl) (pa_cons (pfld K (pv 0)) (pa_cons (pv 2) pa_nil))) pa_nil)))))), ?_⟩
    obtain ⟨dx, lf, lc, ha, hF, _⟩ := hd.ex
    replace ha := del_ex _ _ _ _ ha
    replace hF := hF.ex (del_ex _ _)
    obtain ⟨v1, rfl, p, rfl, hp⟩ := cvs1 hcv
    have n2 := hd.ok.n2
    refine q_asg (v := .ref p) (ev_op (ev_var rfl) ev_c (rv_ixL (sq_of hl) rfl)) fun H1 e1 => ?_
    show tRet _ _ [some (.ref a), some (.ref l), some (.ref p)] _
    refine s_retL (σ := [some (.ref a), some (.ref l), some (.ref p)]) (xs := vints (judge d (Vbenaf.badUpper st.field d))) ?_ fun q H2 nq e2 hq => ret q H2 (fresh_back e1 nq) (ExT.of (e1.trans e2)) (hd.ex' (Ex.del (e1.trans e2) nl)) hq
    intro H2 e2 Q2 k
    refine go_call (go_cons ?_)
    refine (ev_var rfl : Ev (tVar 2) [some (.ref a), some (.ref l), some (.ref p)] H2 (.ref p)) H2 (Ex.refl _) _ fun H3 e3 => ?_
    have e03 := e1.trans (e2.trans e3)
    refine go_cons ?_
    refine (el_call (sp := sp_passed CF) (ea_two (ev_fld (ev_var rfl) (e03 _ _ ha) T.cD T.nField fD_field) (ev_var rfl)) (pL.sp fun H4 e4 => ⟨lf, p, st.field, d, _, _, rfl, hF.ex (e03.trans e4), hd.ok, (e03.trans e4) _ _ hp, hdl, rfl⟩) : EvL (tCall (sp_passed CF) [] E0 (tCons (tFld K (tVar 0) "field") (tCons (tVar 2) tNil))) [some (.ref a), some (.ref l), some (.ref p)] H3 (vnats (NM.badU st.field d))) H3 (Ex.refl _) _ fun r H4 nr e4 hr4 => ?_
    have e04 := e03.trans e4
    refine ⟨_, ⟨p, r, d, NM.badU st.field d, rfl, e04 _ _ hp, by omega, hr4, rfl⟩, fun z H5 nz e5 hz => ?_⟩
    have e35 := e3.trans (e4.trans e5)
    exact k z H5 (fresh_back (e3.trans e4) nz) e35 (by rw [hz, NM.badUpper_eq])
-- def call_known(desk, given):
--     state = given[0]
--     row = lost_row(desk.field, [state], desk.field.table[state], given[1])
--     return [1] if len(row) == 0 else [0] + counted(row)
-- slots 0:desk 1:given 2:state 3:row
abbrev scall_known : Stmt := top 89
theorem sccall_known : FnScope ["desk", "given", "state", "row"] ["desk", "given"] (defScope scall_known) := ⟨rfl, rfl, rfl, by decide +kernel, rfl, by decide +kernel, by decide +kernel⟩
def okSN (st : Vbenaf.State) (cs : List CV) : Prop := ∃ k n : Nat, cs = [cN k, cN n] ∧ k < Vbenaf.states st.field ∧ n ≤ 3
def dKnown (st : Vbenaf.State) (cs : List CV) : Except Int (Vbenaf.State × List Int) := match Vbenaf.stuck st.field (nA 0 cs) (nA 1 cs) with
  | none => .ok (st, [1])
  | some r => .ok (st, 0 :: Vbenaf.listRow r)
theorem ok_call_known {f : Addr} {fd : FuncData} (F : Fun K "call_known" "call_known" scall_known f fd) (T : TxtD K mg CD CC CF) (c_lost_row : Cal P w K mg base CX0 7 "lost_row" (spLost CF 4)) (c_counted : Cal P w K mg base CX0 1 "counted" sp_counted) : FnOk P w K mg base (L2.CX P w) 9 f fd ["desk", "given"] (sp_doer K CD CC CF CR okSN dKnown) := by
  refine F.okX sccall_known (fun vs H Q E h => ?_) (fun cdv A outer s H vs Q E hr h => ?_)
  · obtain ⟨a, l, nl, ys, vs', st, cs, rfl, _⟩ := h
    rfl
  · obtain ⟨a, l, nl, ys, vs', st, cs, rfl, hnl, hd, hl, hcv, ⟨k, n, rfl, hk, hn⟩, ret⟩ := h
    refine ⟨_, (pss_cons (ps_set (i := 2) sccall_known.nd rfl (Or.inl rfl) (pix K (pv 1) pe_int))
      (pss_cons (ps_set (i := 3) sccall_known.nd rfl (Or.inl rfl) (pc c_lost_row hr (by decide) (by rfl) (pa_cons (pfld K (pv 0)) (pa_cons (pe_lst (pa_cons (pv 2) pa_nil)) (pa_cons (pix K (pfld K (pfld K (pv 0))) (pv 2)) (pa_cons (pix K (pv 1) pe_int) pa_nil))))))
      (pss_one (ps_ret (pe_ifExp (pt_cmpR op_eq (plen K T.len (pv 3)) pe_int (nomark _)) (pe_lst (pa_cons pe_int pa_nil)) (pe_op op_cat (pe_lst (pa_cons pe_int pa_nil)) (pc c_counted hr (by decide) (by rfl) (pa_cons (pv 3) pa_nil)))))))), ?_⟩
    obtain ⟨dx, lf, lc, ha, hF, _⟩ := hd.ex
    replace ha := del_ex _ _ _ _ ha
    replace hF := hF.ex (del_ex _ _)
    obtain ⟨v1, v2, rfl, hv1, hv2⟩ := cvs2 hcv
    refine q_asg (v := .int (k : Int)) (ev_is (ev_op (ev_var rfl) ev_c (rv_ixL (sq_of hl) rfl)) hv1) fun H1 e1 => ?_
    have hF1 := hF.ex e1
    have ha1 := e1 _ _ ha
    obtain ⟨A1, hL⟩ := id hF1
    show tSeq _ _ _ [some (.ref a), some (.ref l), some (.int (k : Int)), none] _
    have hrow : EvL (tCall (spLost CF 4) [] E0 (tCons (tFld K (tVar 0) "field") (tCons (tLst (tCons (tVar 2) tNil)) (tCons (tOp (rIxL K) (tFld K (tFld K (tVar 0) "field") "table") (tVar 2)) (tCons (tOp (rIxL K) (tVar 1) (tC (.int 1))) tNil))))) [some (.ref a), some (.ref l), some (.int (k : Int)), none] H1 (vnats ((Vbenaf.stuck st.field k n).getD [])) := by
      intro H2 e2 Q2 kk
      refine go_call (go_cons ?_)
      refine ev_fld (σ := [some (.ref a), some (.ref l), some (.int (k : Int)), none]) (ev_var rfl) ha1 T.cD T.nField fD_field H2 e2 _ fun H3 e3 => ?_
      refine go_cons ?_
      refine (el_lst (ea_one (ev_var rfl)) (Nat.le_of_ble_eq_true rfl) : EvL (tLst (tCons (tVar 2) tNil)) [some (.ref a), some (.ref l), some (.int (k : Int)), none] H3 [.int (k : Int)]) H3 (Ex.refl _) _ fun p H4 np e4 hp => ?_
      refine (ea_two (v_ix (fl := st.field) (ev_fld (ev_fld (ev_var rfl) ha1 T.cD T.nField fD_field) hL.o T.cF T.nTable fF_table) hL.t (ev_var rfl) hd.ok hk) (ev_is (ev_op (ev_var rfl) ev_c (rv_ixL (sq_of (e1 _ _ hl)) rfl)) hv2) : EvA (tCons (tOp (rIxL K) (tFld K (tFld K (tVar 0) "field") "table") (tVar 2)) (tCons (tOp (rIxL K) (tVar 1) (tC (.int 1))) tNil)) [some (.ref a), some (.ref l), some (.int (k : Int)), none] H1 [.int (vI (Vbenaf.valueOf st.field k)), .int (n : Int)]) H4 (e2.trans (e3.trans e4)) _ fun H5 e5 => ?_
      exact ⟨_, ⟨lf, p, n, [k], Vbenaf.valueOf st.field k, st.field, _, _, rfl, hF1.ex (e2.trans (e3.trans (e4.trans e5))), hd.ok, e5 _ _ hp, SOk.one hk, by omega, hn, rfl⟩, fun z H6 nz e6 hz => kk z H6 (fresh_back (e3.trans (e4.trans e5)) nz) (e3.trans (e4.trans (e5.trans e6))) hz⟩
    refine q_asgL hrow fun r H2 nr e2 hr2 => ?_
    have e02 := e1.trans e2
    replace ret : match (match Vbenaf.stuck st.field k n with
        | none => Except.ok (st, [1])
        | some r => .ok (st, 0 :: Vbenaf.listRow r) : Except Int (Vbenaf.State × List Int)) with
        | .ok (st', ans) => ∀ q H', H q = none → ExT H H' → DeskAt CD CC CF (del H' nl) a st' → H' q = some (.lst (vints ans)) → Q (.ref q) H'
        | .error n => RefA K CR n H E := ret
    show tRet _ _ [some (.ref a), some (.ref l), some (.int (k : Int)), some (.ref r)] _
    cases hs : Vbenaf.stuck st.field k n with
    | none =>
      rw [hs] at ret hr2
      exact s_retL (xs := vints [1]) (el_if (b := true) (et_test (ev_is (ev_op (ev_lenE (n := 0) (ev_var rfl) hr2 rfl) ev_c (rv_eq rfl)) rfl)) (fun _ => el_lst (ea_one ev_c) (Nat.le_of_ble_eq_true rfl)) (fun h => by cases h)) fun p H3 np e3 hp => ret p H3 (fresh_back e02 np) (ExT.of (e02.trans e3)) (hd.ex' (Ex.del (e02.trans e3) nl)) hp
    | some r0 =>
      rw [hs] at ret hr2
      have hne := NM.stuck_ne st.field n _ _ r0 hs
      have hl0 : 0 < r0.length := List.length_pos_iff.mpr hne.1
      have hl3 := hne.2
      replace hr2 : H2 r = some (.lst (vnats r0)) := hr2
      have z := el_counted (te := tVar 3) (σ := [some (.ref a), some (.ref l), some (.int (k : Int)), some (.ref r)]) (ev_var rfl) hr2 (by rw [vnats_len]; omega)
      rw [vnats_len] at z
      refine s_retL (σ := [some (.ref a), some (.ref l), some (.int (k : Int)), some (.ref r)]) (xs := vints (0 :: Vbenaf.listRow r0)) (el_if (b := false) (et_test (ev_is (ev_op (ev_lenE (n := (r0.length : Int)) (ev_var rfl) hr2 (by rw [vnats_len])) ev_c (rv_eq rfl)) (congrArg V.bl (decide_eq_false (by
        rw [V.int.injEq]
        omega))))) (fun h => by cases h) (fun _ => ?_)) fun p H3 np e3 hp => ret p H3 (fresh_back e02 np) (ExT.of (e02.trans e3)) (hd.ex' (Ex.del (e02.trans e3) nl)) hp
      have e : vints (0 :: Vbenaf.listRow r0) = [.int 0] ++ (.int (r0.length : Int) :: vnats r0) := by
        rw [← vints_row]
        rfl
      rw [e]
      exact el_catNN (el_lst (ea_one ev_c) (Nat.le_of_ble_eq_true rfl)) z (by simp [vnats]; omega)
-- def call_far(desk, given):
--     return [farthest(desk.field, given[0], given[1])]
-- slots 0:desk 1:given
abbrev scall_far : Stmt := top 90
theorem sccall_far : FnScope ["desk", "given"] ["desk", "given"] (defScope scall_far) := ⟨rfl, rfl, rfl, by decide +kernel, rfl, by decide +kernel, by decide +kernel⟩
def dFar (st : Vbenaf.State) (cs : List CV) : Except Int (Vbenaf.State × List Int) := .ok (st, [(Vbenaf.farthest st.field (nA 0 cs) (rA 1 cs) : Int)])
theorem ok_call_far {f : Addr} {fd : FuncData} (F : Fun K "call_far" "call_far" scall_far f fd) (T : TxtD K mg CD CC CF) (c_farthest : Cal P w K mg base CX0 5 "farthest" (sp_farthest K CF)) : FnOk P w K mg base (L2.CX P w) 9 f fd ["desk", "given"] (sp_doer K CD CC CF CR okSR dFar) := by
  refine F.okX sccall_far (fun vs H Q E h => ?_) (fun cdv A outer s H vs Q E hr h => ?_)
  · obtain ⟨a, l, nl, ys, vs', st, cs, rfl, _⟩ := h
    rfl
  · obtain ⟨a, l, nl, ys, vs', st, cs, rfl, hnl, hd, hl, hcv, ⟨k, row, rfl, hk, h60, hrow⟩, ret⟩ := h
    refine ⟨_, (pss_one (ps_ret (pe_lst (pa_cons (pc c_farthest hr (by decide) (by rfl) (pa_cons (pfld K (pv 0)) (pa_cons (pix K (pv 1) pe_int) (pa_cons (pix K (pv 1) pe_int) pa_nil)))) pa_nil)))), ?_⟩
    obtain ⟨dx, lf, lc, ha, hF, _⟩ := hd.ex
    replace ha := del_ex _ _ _ _ ha
    replace hF := hF.ex (del_ex _ _)
    obtain ⟨v1, v2, rfl, hv1, p, rfl, hp⟩ := cvs2 hcv
    rw [vints_ints] at hp
    replace ret : ∀ q H', H q = none → ExT H H' → DeskAt CD CC CF (del H' nl) a st → H' q = some (.lst (vints [(Vbenaf.farthest st.field k ((VbenCore.ints row).map Int.toNat) : Int)])) → Q (.ref q) H' := ret
    rw [ints_nat] at ret
    exact s_retL (xs := vints [(Vbenaf.farthest st.field k row : Int)]) (el_lst (ea_one (ev_call (ea_cons (ev_fld (ev_var rfl) ha T.cD T.nField fD_field) (ea_two (ev_is (ev_op (ev_var rfl) ev_c (rv_ixL (sq_of hl) rfl)) hv1) (ev_op (ev_var rfl) ev_c (rv_ixL (sq_of hl) rfl)))) (pV.sp fun H1 e1 => ⟨lf, p, k, row, st.field, _, _, rfl, hF.ex e1, hd.ok, hk, e1 _ _ hp, by omega, rfl⟩))) (Nat.le_of_ble_eq_true rfl)) fun q H1 nq e1 hq => ret q H1 nq (ExT.of e1) (hd.ex' (Ex.del e1 nl)) hq
-- def call_may(desk, given):
--     return counted(may_be(desk.field, given[0], given[1])[-1])
-- slots 0:desk 1:given
abbrev scall_may : Stmt := top 91
theorem sccall_may : FnScope ["desk", "given"] ["desk", "given"] (defScope scall_may) := ⟨rfl, rfl, rfl, by decide +kernel, rfl, by decide +kernel, by decide +kernel⟩
def dMay (st : Vbenaf.State) (cs : List CV) : Except Int (Vbenaf.State × List Int) := .ok (st, Vbenaf.listRow (Vbenaf.mayBe st.field [nA 0 cs] (rA 1 cs)))
theorem ok_call_may {f : Addr} {fd : FuncData} (F : Fun K "call_may" "call_may" scall_may f fd) (T : TxtD K mg CD CC CF) (c_may_be : Cal P w K mg base CX0 4 "may_be" (sp_may_be K CF)) (c_counted : Cal P w K mg base CX0 1 "counted" sp_counted) : FnOk P w K mg base (L2.CX P w) 9 f fd ["desk", "given"] (sp_doer K CD CC CF CR okSR dMay) := by
  refine F.okX sccall_may (fun vs H Q E h => ?_) (fun cdv A outer s H vs Q E hr h => ?_)
  · obtain ⟨a, l, nl, ys, vs', st, cs, rfl, _⟩ := h
    rfl
  · obtain ⟨a, l, nl, ys, vs', st, cs, rfl, hnl, hd, hl, hcv, ⟨k, row, rfl, hk, h60, hrow⟩, ret⟩ := h
    refine ⟨_, (pss_one (ps_ret (pc c_counted hr (by decide) (by rfl) (pa_cons (pix K (pc c_may_be hr (by decide) (by rfl) (pa_cons (pfld K (pv 0)) (pa_cons (pix K (pv 1) pe_int) (pa_cons (pix K (pv 1) pe_int) pa_nil)))) (pe_un un_neg pe_int)) pa_nil)))), ?_⟩
    obtain ⟨dx, lf, lc, ha, hF, _⟩ := hd.ex
    replace ha := del_ex _ _ _ _ ha
    replace hF := hF.ex (del_ex _ _)
    obtain ⟨v1, v2, rfl, hv1, p, rfl, hp⟩ := cvs2 hcv
    rw [vints_ints] at hp
    replace ret : ∀ q H', H q = none → ExT H H' → DeskAt CD CC CF (del H' nl) a st → H' q = some (.lst (vints (Vbenaf.listRow (Vbenaf.mayBe st.field [k] ((VbenCore.ints row).map Int.toNat))))) → Q (.ref q) H' := ret
    rw [ints_nat] at ret
    have so := NM.mayBe_ok row [k] (SOk.one hk)
    have l63 := so.few hd.ok.n64
    have hP : EvP (tOp (rIxL K) (tCall (sp_may_be K CF) [] E0 (tCons (tFld K (tVar 0) "field") (tCons (tOp (rIxL K) (tVar 1) (tC (.int 0))) (tCons (tOp (rIxL K) (tVar 1) (tC (.int 1))) tNil)))) (tUn (rU fun i => V.int (-i)) (tC (.int 1)))) [some (.ref a), some (.ref l)] H fun p H' => H' p = some (.lst (vnats (Vbenaf.mayBe st.field [k] row))) := by
      intro H1 e1 Q2 kk
      refine go_op (go_call ?_)
      refine (ea_cons (ev_fld (ev_var rfl) ha T.cD T.nField fD_field) (ea_two (ev_is (ev_op (ev_var rfl) ev_c (rv_ixL (sq_of hl) rfl)) hv1) (ev_op (ev_var rfl) ev_c (rv_ixL (sq_of hl) rfl))) : EvA (tCons (tFld K (tVar 0) "field") (tCons (tOp (rIxL K) (tVar 1) (tC (.int 0))) (tCons (tOp (rIxL K) (tVar 1) (tC (.int 1))) tNil))) [some (.ref a), some (.ref l)] H [.ref lf, .int (k : Int), .ref p]) H1 e1 _ fun H2 e2 => ?_
      exact ⟨lf, p, k, row, st.field, _, _, rfl, hF.ex (e1.trans e2), hd.ok, hk, (e1.trans e2) _ _ hp, by omega, fun b rs H3 nb e3 hb hrr => by
          have hm := NM.mbs_last st.field row [k]
          obtain ⟨ms, hms⟩ : ∃ ms, NM.mbs st.field [k] row = ms ++ [Vbenaf.mayBe st.field [k] row] := by
            exact List.getLast?_eq_some_iff.mp hm
          have rl := hrr.len
          rw [hms, List.map_append] at hrr
          obtain ⟨q, hq1, hq2⟩ := hrr.get (i := ms.length) (l := NM.nI (Vbenaf.mayBe st.field [k] row)) (by
            rw [List.getElem?_append_right (by rw [List.length_map]; exact Nat.le_refl _), List.length_map, Nat.sub_self]
            rfl)
          rw [vints_nI] at hq2
          rw [List.length_map, hms, List.length_append] at rl
          have er : rs = rs.take ms.length ++ [q] := by
            have z := NM.take_snoc hq1
            have e : rs.take (ms.length + 1) = rs := List.take_of_length_le (by rw [rl]; exact Nat.le_refl _)
            rw [e] at z
            exact z
          have hat : atI (vrefs rs) (-1) = some (V.ref q) := by
            rw [er, vrefs, List.map_append]
            exact atI_last _ _
          exact (ev_is (ev_un ev_c ru_neg) rfl : Ev (tUn (rU fun i => V.int (-i)) (tC (.int 1))) [some (.ref a), some (.ref l)] H3 (.int (-1))) H3 (Ex.refl _) _ fun H4 e4 => ⟨b, vrefs rs, -1, .ref q, rfl, rfl, sq_of (e4 _ _ hb), hat, kk q H4 (e2.trans (e3.trans e4)) (e4 _ _ hq2)⟩⟩
    have z := el_countedP hP (by rw [vnats_len]; omega)
    rw [vnats_len, ← vints_row] at z
    exact s_retL z fun q H1 nq e1 hq => ret q H1 nq (ExT.of e1) (hd.ex' (Ex.del e1 nl)) hq
-- def call_before(desk, given):
--     return counted(desk.field.before(given[0]))
-- slots 0:desk 1:given
abbrev scall_before : Stmt := top 97
theorem sccall_before : FnScope ["desk", "given"] ["desk", "given"] (defScope scall_before) := ⟨rfl, rfl, rfl, by decide +kernel, rfl, by decide +kernel, by decide +kernel⟩
def dBefore (st : Vbenaf.State) (cs : List CV) : Except Int (Vbenaf.State × List Int) := .ok (st, Vbenaf.listRow (NM.before st.field (nA 0 cs)))
theorem ok_call_before {f : Addr} {fd : FuncData} (F : Fun K "call_before" "call_before" scall_before f fd) (T : TxtD K mg CD CC CF) (m_Field_before : Met P w K mg base CX0 1 CF "before" (spF_before CF)) (c_counted : Cal P w K mg base CX0 1 "counted" sp_counted) : FnOk P w K mg base (L2.CX P w) 9 f fd ["desk", "given"] (sp_doer K CD CC CF CR okS dBefore) := by
  refine F.okX sccall_before (fun vs H Q E h => ?_) (fun cdv A outer s H vs Q E hr h => ?_)
  · obtain ⟨a, l, nl, ys, vs', st, cs, rfl, _⟩ := h
    rfl
  · obtain ⟨a, l, nl, ys, vs', st, cs, rfl, hnl, hd, hl, hcv, ⟨k, rfl, hk⟩, ret⟩ := h
    refine ⟨_, (pss_one (ps_ret (pc c_counted hr (by decide) (by rfl) (pa_cons (pmt m_Field_before hr (by decide) (pfld K (pv 0)) (pa_cons (pix K (pv 1) pe_int) pa_nil)) pa_nil)))), ?_⟩
    obtain ⟨dx, lf, lc, ha, hF, _⟩ := hd.ex
    replace ha := del_ex _ _ _ _ ha
    replace hF := hF.ex (del_ex _ _)
    obtain ⟨v1, rfl, hv1⟩ := cvs1 hcv
    obtain ⟨A1, hL⟩ := id hF
    have n64 := hd.ok.n64
    have hwl := NM.before_len st.field k
    refine s_retL (xs := vints (Vbenaf.listRow (NM.before st.field k))) ?_ fun q H1 nq e1 hq => ret q H1 nq (ExT.of e1) (hd.ex' (Ex.del e1 nl)) hq
    rw [vints_row]
    have z := el_countedN (te := tMeth CF "before" (spF_before CF) [] E0 (tFld K (tVar 0) "field") (tCons (tOp (rIxL K) (tVar 1) (tC (.int 0))) tNil)) (σ := [some (.ref a), some (.ref l)]) (H := H) (xs := vnats (NM.before st.field k))
      (el_mth (ev_fld (ev_var rfl) ha T.cD T.nField fD_field) hL.o (fF_no (by decide +kernel)) (ea_one (ev_op (ev_var rfl) ev_c (rv_ixL (sq_of hl) rfl))) (pL.sp fun H1 e1 => ⟨lf, k, st.field, by rw [show v1 = _ from hv1], ⟨hd.ok, hF.ex e1⟩, hk, rfl⟩)) (by rw [vnats_len]; omega)
    rw [vnats_len] at z
    exact z
-- def call_best(desk, given):
--     field = best_field(given[0], given[1])
--     return [rank_number(field.ranks[0])] + [value_number(value) for value in field.table]
-- slots 0:desk 1:given 2:field 3:value
abbrev scall_best : Stmt := top 92
theorem sccall_best : FnScope ["desk", "given", "field", "value"] ["desk", "given"] (defScope scall_best) := ⟨rfl, rfl, rfl, by decide +kernel, rfl, by decide +kernel, by decide +kernel⟩
def okHV (_ : Vbenaf.State) (cs : List CV) : Prop := ∃ h v : Nat, cs = [cN h, cN v] ∧ 1 ≤ h ∧ h ≤ 3 ∧ 2 ≤ v ∧ v ≤ 8
def dBest (st : Vbenaf.State) (cs : List CV) : Except Int (Vbenaf.State × List Int) := if (nA 1 cs + 1) ^ (2 ^ nA 0 cs - 1) ≤ 20000 then .ok (st, ((Vbenaf.bestTable (nA 0 cs) (nA 1 cs)).1 : Int) :: (Vbenaf.bestTable (nA 0 cs) (nA 1 cs)).2.map Vbenaf.valueNum) else .error (-9)
theorem ok_call_best {f : Addr} {fd : FuncData} (F : Fun K "call_best" "call_best" scall_best f fd) (T : TxtD K mg CD CC CF) (rM : RC K CR CM) (c_best_field : Cal P w K mg base (L2.CX P w) 8 "best_field" (sp_best_field CF CM)) (c_rank_number : Cal P w K mg base CX0 1 "rank_number" sp_rank_number) (c_value_number : Cal P w K mg base CX0 1 "value_number" sp_value_number) : FnOk P w K mg base (L2.CX P w) 9 f fd ["desk", "given"] (sp_doer K CD CC CF CR okHV dBest) := by
  refine F.okX sccall_best (fun vs H Q E h => ?_) (fun cdv A outer s H vs Q E hr h => ?_)
  · obtain ⟨a, l, nl, ys, vs', st, cs, rfl, _⟩ := h
    rfl
  · obtain ⟨a, l, nl, ys, vs', st, cs, rfl, hnl, hd, hl, hcv, ⟨h, v, rfl, h1, h3, v2, v8⟩, ret⟩ := h
    refine ⟨_, (pss_cons (ps_set (i := 2) sccall_best.nd rfl (Or.inl rfl) (pcS c_best_field hr (by decide) (takes_of rfl rfl rfl rfl) (by rfl) (pa_cons (pix K (pv 1) pe_int) (pa_cons (pix K (pv 1) pe_int) pa_nil))))
      (pss_one (ps_ret (pe_op op_cat (pe_lst (pa_cons (pc c_rank_number hr (by decide) (by rfl) (pa_cons (pix K (pfld K (pv 2)) pe_int) pa_nil)) pa_nil)) (pe_lc (own := [("value", 3)]) (g := (gName 3)) (by rfl) sccall_best.nd (piList K (pfld K (pv 2))) (blkOk_by (own := [("value", 3)]) (N := ["desk", "given", "field", "value"]) (sc := defScope scall_best) (by decide +kernel)) (fun _ _ _ _ _ => (pg_name (i := 3) sccall_best.nd rfl (Or.inl rfl))) (fun _ _ _ _ _ => pts_nil) (fun _ _ _ _ _ => (pc c_value_number hr (by decide) (by rfl) (pa_cons (pv 3) pa_nil)))))))), ?_⟩
    obtain ⟨v1, u2, rfl, hv1, hv2⟩ := cvs2 hcv
    refine go_callS (σ := [some (.ref a), some (.ref l), none, none]) (vs := [.int (h : Int), .int (v : Int)]) (ea_two (ev_is (ev_op (ev_var rfl) ev_c (rv_ixL (sq_of hl) rfl)) hv1) (ev_is (ev_op (ev_var rfl) ev_c (rv_ixL (sq_of hl) rfl)) hv2)) fun H1 e1 => ⟨h, v, rfl, ⟨h1, h3, v2, v8⟩, ?_⟩
    replace ret : match (if MT h v ≤ 20000 then .ok (st, ((Vbenaf.bestTable h v).1 : Int) :: (Vbenaf.bestTable h v).2.map Vbenaf.valueNum) else .error (-9) : Except Int (Vbenaf.State × List Int)) with
      | .ok (st', ans) => ∀ q H', H q = none → ExT H H' → DeskAt CD CC CF (del H' nl) a st' → H' q = some (.lst (vints ans)) → Q (.ref q) H'
      | .error n => RefA K CR n H E := ret
    by_cases hc : MT h v ≤ 20000
    · rw [if_pos hc] at ret ⊢
      intro p H2 np e2 hW
      have e02 := e1.trans e2
      obtain ⟨A2, hL⟩ := hW
      obtain ⟨hbr, c0, hc0⟩ := NM.bt_inv (h := h) v2 (MT h v)
      rw [← NM.bt_all] at hbr hc0
      have okb : FBk (gF h v (Vbenaf.bestTable h v).2) := by
        rw [hc0]
        exact NM.tab_ok h1 h3 v8
      have hs0 : 0 < Vbenaf.states (gF h v (Vbenaf.bestTable h v).2) := NM.two_pow_pos h
      have htl : (Vbenaf.bestTable h v).2.length ≤ 8 := by
        rw [hc0, NM.tab_len]
        exact pow8 h3
      have key : EvL (tLc (iList K (tFld K (tVar 2) "table")) (gName 3) tYes (tCall sp_value_number [] E0 (tCons (tVar 3) tNil)) [3]) [some (.ref a), some (.ref l), some (.ref p), none] H2 ((Vbenaf.bestTable h v).2.map fun o => V.int (Vbenaf.valueNum o)) := by
        have z := el_lcLm (K := K) (tl := tFld K (tVar 2) "table") (t := tYes) (te := tCall sp_value_number [] E0 (tCons (tVar 3) tNil)) (σ := [some (.ref a), some (.ref l), some (.ref p), none]) (H := H2) (l := (Vbenaf.bestTable h v).2) (c := fun o => V.int (vI o)) (g := fun _ => true) (v := fun o => V.int (Vbenaf.valueNum o)) (j := 3) (vs := [3])
          (ev_fld (ev_var rfl) hL.o T.cF T.nTable fF_table) hL.t (by omega) (fun x => rfl) (fun o H3 _ _ => fun H4 _ Q q => q H4 (Ex.refl _)) (fun o H3 _ ho _ => ev_call (ea_one (ev_var rfl)) (pV.sp fun H4 e4 => ⟨o, rfl, rfl⟩))
        rw [List.filter_eq_self.mpr (fun _ _ => rfl)] at z
        exact z
      have e : vints (((Vbenaf.bestTable h v).1 : Int) :: (Vbenaf.bestTable h v).2.map Vbenaf.valueNum) = [.int ((Vbenaf.bestTable h v).1 : Int)] ++ ((Vbenaf.bestTable h v).2.map fun o => V.int (Vbenaf.valueNum o)) := by
        unfold vints
        rw [List.map_cons, List.map_map]
        rfl
      show tRet (tOp rCat (tLst (tCons (tCall sp_rank_number [] E0 (tCons (tOp (rIxL K) (tFld K (tVar 2) "ranks") (tC (.int 0))) tNil)) tNil)) (tLc (iList K (tFld K (tVar 2) "table")) (gName 3) tYes (tCall sp_value_number [] E0 (tCons (tVar 3) tNil)) [3])) { nx := fun x H' => Q V.non H', rt := Q } [some (.ref a), some (.ref l), some (.ref p), none] H2
      refine s_retL (σ := [some (.ref a), some (.ref l), some (.ref p), none]) (xs := vints (((Vbenaf.bestTable h v).1 : Int) :: (Vbenaf.bestTable h v).2.map Vbenaf.valueNum)) ?_ fun q H3 nq e3 hq => ret q H3 (fresh_back e02 nq) (ExT.of (e02.trans e3)) (hd.ex' (Ex.del (e02.trans e3) nl)) hq
      rw [e]
      refine el_catNN (el_lst (ea_one (ev_call (ea_one (i_ix (j := 0) (ev_fld (ev_var rfl) hL.o T.cF T.nRanks fF_ranks) hL.r ev_c (NM.rkAll_get hs0))) (pV.sp fun H4 e4 => ⟨_, rfl, by
        rw [rank_num _ okb hs0, hbr]
        rfl⟩))) (Nat.le_of_ble_eq_true rfl)) key (by rw [List.length_map]; show 1 + _ ≤ _; omega)
    · rw [if_neg hc] at ret ⊢
      exact rM.ref (RefA.mono ret e1)
-- def call_new(desk, given):
--     desk.renew()
--     return [0]
-- slots 0:desk 1:given
abbrev scall_new : Stmt := top 93
theorem sccall_new : FnScope ["desk", "given"] ["desk", "given"] (defScope scall_new) := ⟨rfl, rfl, rfl, by decide +kernel, rfl, by decide +kernel, by decide +kernel⟩
def dNew (st : Vbenaf.State) (_ : List CV) : Except Int (Vbenaf.State × List Int) := .ok ({ st with now := 0, made := 0 }, [0])
theorem ok_call_new {f : Addr} {fd : FuncData} (F : Fun K "call_new" "call_new" scall_new f fd) (m_Desk_renew : Met P w K mg base CX0 3 CD "renew" (spD_renew CD CC)) : FnOk P w K mg base (L2.CX P w) 9 f fd ["desk", "given"] (sp_doer K CD CC CF CR okNo dNew) := by
  refine F.okX sccall_new (fun vs H Q E h => ?_) (fun cdv A outer s H vs Q E hr h => ?_)
  · obtain ⟨a, l, nl, ys, vs', st, cs, rfl, _⟩ := h
    rfl
  · obtain ⟨a, l, nl, ys, vs', st, cs, rfl, hnl, hd, hl, hcv, rfl, ret⟩ := h
    refine ⟨_, (pss_cons (ps_expr (pmt0 m_Desk_renew hr (by decide) (pv 0)))
      (pss_one (ps_ret (pe_lst (pa_cons pe_int pa_nil))))), ?_⟩
    obtain ⟨dx, lf, lc, ha, hF, _⟩ := hd.ex
    have nal : a ≠ nl := fun z => by rw [z, del_same] at ha; cases ha
    have nla : lf ≠ a := by
      obtain ⟨A1, hL⟩ := id hF
      refine ne_of hL.o ha fun z => ?_
      injection z with z1 z2 z3
      exact absurd (congrArg List.length z3) (by show ¬ (7 : Nat) = 2; decide)
    replace ha := del_ex _ _ _ _ ha
    refine ⟨_, rfl, a, dx, _, rfl, ha, fD_renew, ?_⟩
    refine ⟨a, dx, lf, lc, rfl, ha, fun c dc H2 nc e2 ha2 hc2 => ?_⟩
    refine s_retL (σ := [some (.ref a), some (.ref l)]) (xs := vints [0]) (el_lst (ea_one ev_c) (Nat.le_of_ble_eq_true rfl)) fun p H3 np e3 hp => ?_
    obtain ⟨h1, h2⟩ := laid (CC := CC) (x := st.field) hnl ha nal nla (Ex.refl H) hF hd.ok nc e2 ha2 hc2 e3
    exact ret p H3 (e2.none ha2 np) h1 h2 hp
/-- the card has changed -/
theorem carded {H H2 H3 : Hp} {a nl lf c dx dc : Addr} {ys : List V} {st : Vbenaf.State} {s n : Nat} (hnl : H nl = some (.lst ys)) (ha : (del H nl) a = some (.ins CD dx (fD lf c))) (hF : FldW CF (del H nl) lf st.field (NM.rkAll st.field) (NM.bsAll st.field)) (hc : (del H nl) c = some (.ins CC dc (fC lf st.now st.made))) (ok : FOk st.field)
    (e2 : ExB c H H2) (hc2 : H2 c = some (.ins CC dc (fC lf s n))) (hs : s < Vbenaf.states st.field) (e3 : Ex H2 H3) : ExT H H3 ∧ DeskAt CD CC CF (del H3 nl) a { st with now := s, made := n } := by
  have ncn : c ≠ nl := fun z => by rw [z, del_same] at hc; cases hc
  have nan : a ≠ nl := fun z => by rw [z, del_same] at ha; cases ha
  have nac : a ≠ c := ne_of ha hc fun z => by
    injection z with z1 z2 z3
    exact absurd (congrArg List.length z3) (by show ¬ (2 : Nat) = 3; decide)
  have nlc : lf ≠ c := by
    obtain ⟨A1, hL⟩ := id hF
    refine ne_of hL.o hc fun z => ?_
    injection z with z1 z2 z3
    exact absurd (congrArg List.length z3) (by show ¬ (7 : Nat) = 3; decide)
  have eB : ExB c (del H nl) (del H2 nl) := fun b o n h => by
    by_cases z : b = nl
    · rw [z, del_same] at h; cases h
    · rw [del_ne z] at h ⊢
      exact e2 b o n h
  have hcH := del_ex _ _ _ _ hc
  refine ⟨(ExT.ofB e2 hcH).trans (ExT.of e3), ⟨dx, lf, c, Ex.del e3 nl _ _ (eB _ _ nac ha), (hF.exB hc nlc eB).ex (Ex.del e3 nl), dc, (del_ne ncn).trans (e3 _ _ hc2)⟩, ok, hs⟩
-- def call_change(desk, given):
--     card = desk.card
--     before = notch_count(card.state)
--     card.change(given[0])
--     return [card.state, notch_count(card.state) - before]
-- slots 0:desk 1:given 2:card 3:before
abbrev scall_change : Stmt := top 94
theorem sccall_change : FnScope ["desk", "given", "card", "before"] ["desk", "given"] (defScope scall_change) := ⟨rfl, rfl, rfl, by decide +kernel, rfl, by decide +kernel, by decide +kernel⟩
def okV (st : Vbenaf.State) (cs : List CV) : Prop := ∃ v : Nat, cs = [cN v] ∧ v < st.field.values.length
def dChange (st : Vbenaf.State) (cs : List CV) : Except Int (Vbenaf.State × List Int) := if Vbenaf.valueOf st.field st.now = some (nA 0 cs) then .ok (st, [(st.now : Int), 0])
    else if (Vbenaf.asked st.field st.now).contains (nA 0 cs) = false then .error (-6)
    else match Vbenaf.goTo st.field st.now (nA 0 cs) with
      | none => .error (-7)
      | some t => .ok ({ st with now := t, made := st.made + 1 }, [(t : Int), ((Vbenaf.count st.field.holes t - Vbenaf.count st.field.holes st.now : Nat) : Int)])
theorem ok_call_change {f : Addr} {fd : FuncData} (F : Fun K "call_change" "call_change" scall_change f fd) (T : TxtD K mg CD CC CF) (rNA : RC K CR CNA) (rWW : RC K CR CWW) (c_notch_count : Cal P w K mg base CX0 1 "notch_count" sp_notch_count) (m_Card_change : Met P w K mg base (L2.CX P w) 4 CC "change" (spC_change CC CF CNA CWW)) : FnOk P w K mg base (L2.CX P w) 9 f fd ["desk", "given"] (sp_doer K CD CC CF CR okV dChange) := by
  refine F.okX sccall_change (fun vs H Q E h => ?_) (fun cdv A outer s H vs Q E hr h => ?_)
  · obtain ⟨a, l, nl, ys, vs', st, cs, rfl, _⟩ := h
    rfl
  · obtain ⟨a, l, nl, ys, vs', st, cs, rfl, hnl, hd, hl, hcv, ⟨v, rfl, hv⟩, ret⟩ := h
    refine ⟨_, (pss_cons (ps_set (i := 2) sccall_change.nd rfl (Or.inl rfl) (pfld K (pv 0)))
      (pss_cons (ps_set (i := 3) sccall_change.nd rfl (Or.inl rfl) (pc c_notch_count hr (by decide) (by rfl) (pa_cons (pfld K (pv 2)) pa_nil)))
      (pss_cons (ps_expr (pmtS m_Card_change hr (by decide) (takes_of rfl rfl rfl rfl) (pv 2) (pa_cons (pix K (pv 1) pe_int) pa_nil)))
      (pss_one (ps_ret (pe_lst (pa_cons (pfld K (pv 2)) (pa_cons (pe_op op_sub (pc c_notch_count hr (by decide) (by rfl) (pa_cons (pfld K (pv 2)) pa_nil)) (pv 3)) pa_nil)))))))), ?_⟩
    obtain ⟨dx, lf, lc, had, hFd, dc, hcd⟩ := hd.ex
    have ha := del_ex _ _ _ _ had
    have hF := hFd.ex (del_ex _ _)
    have hc := del_ex _ _ _ _ hcd
    obtain ⟨v1, rfl, hv1⟩ := cvs1 hcv
    have n64 := hd.ok.n64
    have hnw := hd.nw
    refine q_asg (v := .ref lc) (ev_fld (ev_var rfl) ha T.cD T.nCard fD_card) fun H1 e1 => ?_
    refine q_asg (v := .int (NM.pc st.now : Int)) (ev_call (ea_one (ev_fld (ev_var rfl) (e1 _ _ hc) T.cC T.nState fC_state)) (pV.sp fun H2 e2 => ⟨st.now, rfl, by omega, rfl⟩)) fun H2 e2 => ?_
    have e02 := e1.trans e2
    show tSeq _ _ _ [some (.ref a), some (.ref l), some (.ref lc), some (.int (NM.pc st.now : Int))] H2
    refine ⟨.ref lc, rfl, lc, dc, _, rfl, e02 _ _ hc, fC_no (by decide +kernel), ?_⟩
    refine (ea_one (ev_is (ev_op (ev_var rfl) ev_c (rv_ixL (sq_of (e02 _ _ hl)) rfl)) hv1) : EvA (tCons (tOp (rIxL K) (tVar 1) (tC (.int 0))) tNil) [some (.ref a), some (.ref l), some (.ref lc), some (.int (NM.pc st.now : Int))] H2 [.int (v : Int)]) H2 (Ex.refl _) _ fun H3 e3 => ?_
    have e03 := e02.trans e3
    refine ⟨lc, dc, lf, st.field, st.now, st.made, v, rfl, e03 _ _ hc, ⟨hd.ok, hF.ex e03⟩, hnw, hv, ?_⟩
    replace ret : match (if Vbenaf.valueOf st.field st.now = some v then .ok (st, [(st.now : Int), 0])
      else if (Vbenaf.asked st.field st.now).contains v = false then .error (-6)
      else match Vbenaf.goTo st.field st.now v with
        | none => .error (-7)
        | some t => .ok ({ st with now := t, made := st.made + 1 }, [(t : Int), ((Vbenaf.count st.field.holes t - Vbenaf.count st.field.holes st.now : Nat) : Int)]) : Except Int (Vbenaf.State × List Int)) with
      | .ok (st', ans) => ∀ q H', H q = none → ExT H H' → DeskAt CD CC CF (del H' nl) a st' → H' q = some (.lst (vints ans)) → Q (.ref q) H'
      | .error n => RefA K CR n H E := ret
    have c2 := NM.count_pc st.field.holes st.now hnw
    -- what is answered
    have fin : ∀ {H4 : Hp} {s n : Nat}, H4 lc = some (.ins CC dc (fC lf s n)) → s < Vbenaf.states st.field → Vbenaf.count st.field.holes st.now ≤ Vbenaf.count st.field.holes s → (∀ p H5, H4 p = none → Ex H4 H5 → H5 p = some (.lst (vints [(s : Int), ((Vbenaf.count st.field.holes s - Vbenaf.count st.field.holes st.now : Nat) : Int)])) → Q (.ref p) H5) →
        tRet (tLst (tCons (tFld K (tVar 2) "state") (tCons (tOp (rI0 fun i j => V.int (i - j)) (tCall sp_notch_count [] E0 (tCons (tFld K (tVar 2) "state") tNil)) (tVar 3)) tNil))) { nx := fun x H' => Q V.non H', rt := Q } [some (.ref a), some (.ref l), some (.ref lc), some (.int (NM.pc st.now : Int))] H4 := fun {H4 s n} h4 hs hle k => by
      have c1 := NM.count_pc st.field.holes s hs
      exact s_retL (el_lst (ea_two (ev_fld (ev_var rfl) h4 T.cC T.nState fC_state) (ev_is (ev_op (ev_call (ea_one (ev_fld (ev_var rfl) h4 T.cC T.nState fC_state)) (pV.sp fun H5 e5 => ⟨s, rfl, by omega, rfl⟩)) (ev_var rfl) rv_I0) (by congr 1; omega))) (Nat.le_of_ble_eq_true rfl)) k
    by_cases h1 : Vbenaf.valueOf st.field st.now = some v
    · rw [if_pos h1] at ret ⊢
      intro H4 e4
      have e04 := e03.trans e4
      refine fin (e04 _ _ hc) hnw (Nat.le_refl _) fun p H5 np e5 hp => ?_
      rw [Nat.sub_self] at hp
      exact ret p H5 (fresh_back e04 np) (ExT.of (e04.trans e5)) (hd.ex' (Ex.del (e04.trans e5) nl)) hp
    · rw [if_neg h1] at ret ⊢
      by_cases h2 : (Vbenaf.asked st.field st.now).contains v = false
      · rw [if_pos h2] at ret ⊢
        exact rNA.ref (RefA.mono ret e03)
      · rw [if_neg h2] at ret ⊢
        cases hg : Vbenaf.goTo st.field st.now v with
        | none =>
          rw [hg] at ret
          exact rWW.ref (RefA.mono ret e03)
        | some t =>
          rw [hg] at ret
          intro H4 e4 hc4
          obtain ⟨ht, hcnt⟩ := goTo_in hd.ok hnw hg
          have e04 : ExB lc H H4 := (ExB.of e03).trans e4
          refine fin hc4 ht hcnt fun p H5 np e5 hp => ?_
          obtain ⟨r1, r2⟩ := carded (CD := CD) hnl had hFd hcd hd.ok e04 hc4 ht e5
          exact ret p H5 (e04.none hc4 np) r1 r2 hp
-- def call_notch(desk, given):
--     card = desk.card
--     card.notch(given[0])
--     return [card.state]
-- slots 0:desk 1:given 2:card
abbrev scall_notch : Stmt := top 95
theorem sccall_notch : FnScope ["desk", "given", "card"] ["desk", "given"] (defScope scall_notch) := ⟨rfl, rfl, rfl, by decide +kernel, rfl, by decide +kernel, by decide +kernel⟩
def okHo (st : Vbenaf.State) (cs : List CV) : Prop := ∃ h : Nat, cs = [cN h] ∧ h < st.field.holes
def dNotch (st : Vbenaf.State) (cs : List CV) : Except Int (Vbenaf.State × List Int) := if Vbenaf.bit st.now (nA 0 cs) = true then .error (-6) else .ok ({ st with now := st.now + 2 ^ nA 0 cs }, [((st.now + 2 ^ nA 0 cs : Nat) : Int)])
theorem notch_lt {s h n : Nat} (hs : s < 2 ^ n) (hh : h < n) (hb : Vbenaf.bit s h = false) : s + 2 ^ h < 2 ^ n := by
  obtain ⟨m, rfl⟩ : ∃ m, n = h + (m + 1) := ⟨n - h - 1, by omega⟩
  have he : s / 2 ^ h % 2 = 0 := by
    have z : ¬ (s / 2 ^ h % 2 = 1) := fun z => by
      unfold Vbenaf.bit at hb
      rw [z] at hb
      cases hb
    omega
  have hp : 0 < 2 ^ h := Nat.pow_pos (by decide)
  rw [Nat.pow_add, Nat.pow_succ] at hs ⊢
  have hq : s / 2 ^ h < 2 ^ m * 2 := Nat.div_lt_of_lt_mul hs
  have e := Nat.div_add_mod s (2 ^ h)
  have r := Nat.mod_lt s hp
  generalize s / 2 ^ h = q at he hq e
  generalize s % 2 ^ h = y at r e
  have q2 : q + 2 ≤ 2 ^ m * 2 := by omega
  have z := Nat.mul_le_mul_left (2 ^ h) q2
  rw [Nat.mul_add] at z
  omega
theorem ok_call_notch {f : Addr} {fd : FuncData} (F : Fun K "call_notch" "call_notch" scall_notch f fd) (T : TxtD K mg CD CC CF) (rHN : RC K CR CHN) (m_Card_notch : Met P w K mg base (L2.CX P w) 4 CC "notch" (spC_notch CC CHN)) : FnOk P w K mg base (L2.CX P w) 9 f fd ["desk", "given"] (sp_doer K CD CC CF CR okHo dNotch) := by
  refine F.okX sccall_notch (fun vs H Q E h => ?_) (fun cdv A outer s H vs Q E hr h => ?_)
  · obtain ⟨a, l, nl, ys, vs', st, cs, rfl, _⟩ := h
    rfl
  · obtain ⟨a, l, nl, ys, vs', st, cs, rfl, hnl, hd, hl, hcv, ⟨h, rfl, hh⟩, ret⟩ := h
    refine ⟨_, (pss_cons (ps_set (i := 2) sccall_notch.nd rfl (Or.inl rfl) (pfld K (pv 0)))
      (pss_cons (ps_expr (pmtS m_Card_notch hr (by decide) (takes_of rfl rfl rfl rfl) (pv 2) (pa_cons (pix K (pv 1) pe_int) pa_nil)))
      (pss_one (ps_ret (pe_lst (pa_cons (pfld K (pv 2)) pa_nil)))))), ?_⟩
    obtain ⟨dx, lf, lc, had, hFd, dc, hcd⟩ := hd.ex
    have ha := del_ex _ _ _ _ had
    have hc := del_ex _ _ _ _ hcd
    obtain ⟨v1, rfl, hv1⟩ := cvs1 hcv
    have hnw := hd.nw
    have h6 := hd.ok.h6
    refine q_asg (v := .ref lc) (ev_fld (ev_var rfl) ha T.cD T.nCard fD_card) fun H1 e1 => ?_
    show tSeq _ _ _ [some (.ref a), some (.ref l), some (.ref lc)] H1
    refine ⟨.ref lc, rfl, lc, dc, _, rfl, e1 _ _ hc, fC_no (by decide +kernel), ?_⟩
    refine (ea_one (ev_is (ev_op (ev_var rfl) ev_c (rv_ixL (sq_of (e1 _ _ hl)) rfl)) hv1) : EvA (tCons (tOp (rIxL K) (tVar 1) (tC (.int 0))) tNil) [some (.ref a), some (.ref l), some (.ref lc)] H1 [.int (h : Int)]) H1 (Ex.refl _) _ fun H3 e3 => ?_
    have e03 := e1.trans e3
    refine ⟨lc, dc, lf, st.now, st.made, h, rfl, e03 _ _ hc, by omega, ?_⟩
    replace ret : match (if Vbenaf.bit st.now h = true then .error (-6) else .ok ({ st with now := st.now + 2 ^ h }, [((st.now + 2 ^ h : Nat) : Int)]) : Except Int (Vbenaf.State × List Int)) with
      | .ok (st', ans) => ∀ q H', H q = none → ExT H H' → DeskAt CD CC CF (del H' nl) a st' → H' q = some (.lst (vints ans)) → Q (.ref q) H'
      | .error n => RefA K CR n H E := ret
    by_cases hb : Vbenaf.bit st.now h = true
    · rw [if_pos hb] at ret ⊢
      exact rHN.ref (RefA.mono ret e03)
    · rw [if_neg hb] at ret ⊢
      intro H4 e4 hc4
      have hlt : st.now + 2 ^ h < Vbenaf.states st.field := notch_lt hnw hh (by simpa using hb)
      have e04 : ExB lc H H4 := (ExB.of e03).trans e4
      refine s_retL (σ := [some (.ref a), some (.ref l), some (.ref lc)]) (D := { nx := fun x H' => Q V.non H', rt := Q }) (xs := vints [((st.now + 2 ^ h : Nat) : Int)]) (el_lst (ea_one (ev_fld (ev_var rfl) hc4 T.cC T.nState fC_state)) (Nat.le_of_ble_eq_true rfl)) fun p H5 np e5 hp => ?_
      obtain ⟨r1, r2⟩ := carded (CD := CD) hnl had hFd hcd hd.ok e04 hc4 hlt e5
      exact ret p H5 (e04.none hc4 np) r1 r2 hp
-- def call_card(desk, given):
--     state = desk.card.state
--     return [state, value_number(desk.field.table[state]), desk.card.changes, rank_number(desk.field.ranks[state])]
-- slots 0:desk 1:given 2:state
abbrev scall_card : Stmt := top 96
theorem sccall_card : FnScope ["desk", "given", "state"] ["desk", "given"] (defScope scall_card) := ⟨rfl, rfl, rfl, by decide +kernel, rfl, by decide +kernel, by decide +kernel⟩
def dCard (st : Vbenaf.State) (_ : List CV) : Except Int (Vbenaf.State × List Int) := .ok (st, [(st.now : Int), Vbenaf.valueNum (Vbenaf.valueOf st.field st.now), (st.made : Int), Vbenaf.rankNum (Vbenaf.rank st.field st.now)])
theorem ok_call_card {f : Addr} {fd : FuncData} (F : Fun K "call_card" "call_card" scall_card f fd) (T : TxtD K mg CD CC CF) (c_rank_number : Cal P w K mg base CX0 1 "rank_number" sp_rank_number) (c_value_number : Cal P w K mg base CX0 1 "value_number" sp_value_number) : FnOk P w K mg base (L2.CX P w) 9 f fd ["desk", "given"] (sp_doer K CD CC CF CR okNo dCard) := by
  refine F.okX sccall_card (fun vs H Q E h => ?_) (fun cdv A outer s H vs Q E hr h => ?_)
  · obtain ⟨a, l, nl, ys, vs', st, cs, rfl, _⟩ := h
    rfl
  · obtain ⟨a, l, nl, ys, vs', st, cs, rfl, hnl, hd, hl, hcv, rfl, ret⟩ := h
    refine ⟨_, (pss_cons (ps_set (i := 2) sccall_card.nd rfl (Or.inl rfl) (pfld K (pfld K (pv 0))))
      (pss_one (ps_ret (pe_lst (pa_cons (pv 2) (pa_cons (pc c_value_number hr (by decide) (by rfl) (pa_cons (pix K (pfld K (pfld K (pv 0))) (pv 2)) pa_nil)) (pa_cons (pfld K (pfld K (pv 0))) (pa_cons (pc c_rank_number hr (by decide) (by rfl) (pa_cons (pix K (pfld K (pfld K (pv 0))) (pv 2)) pa_nil)) pa_nil)))))))), ?_⟩
    obtain ⟨dx, lf, lc, had, hFd, dc, hcd⟩ := hd.ex
    have ha := del_ex _ _ _ _ had
    have hF := hFd.ex (del_ex _ _)
    have hc := del_ex _ _ _ _ hcd
    have hnw := hd.nw
    refine q_asg (v := .int (st.now : Int)) (ev_fld (ev_fld (ev_var rfl) ha T.cD T.nCard fD_card) hc T.cC T.nState fC_state) fun H1 e1 => ?_
    have hF1 := hF.ex e1
    have ha1 := e1 _ _ ha
    have hc1 := e1 _ _ hc
    obtain ⟨A1, hL⟩ := id hF1
    show tRet _ _ [some (.ref a), some (.ref l), some (.int (st.now : Int))] H1
    exact s_retL (σ := [some (.ref a), some (.ref l), some (.int (st.now : Int))]) (xs := vints [(st.now : Int), Vbenaf.valueNum (Vbenaf.valueOf st.field st.now), (st.made : Int), Vbenaf.rankNum (Vbenaf.rank st.field st.now)])
      (el_lst (ea_cons (ev_var rfl) (ea_cons (ev_call (ea_one (v_ix (fl := st.field) (ev_fld (ev_fld (ev_var rfl) ha1 T.cD T.nField fD_field) hL.o T.cF T.nTable fF_table) hL.t (ev_var rfl) hd.ok hnw)) (pV.sp fun H2 e2 => ⟨Vbenaf.valueOf st.field st.now, rfl, rfl⟩)) (ea_two (ev_fld (ev_fld (ev_var rfl) ha1 T.cD T.nCard fD_card) hc1 T.cC T.nChanges fC_changes) (ev_call (ea_one (i_ix (ev_fld (ev_fld (ev_var rfl) ha1 T.cD T.nField fD_field) hL.o T.cF T.nRanks fF_ranks) hL.r (ev_var rfl) (NM.rkAll_get hnw))) (pV.sp fun H2 e2 => ⟨_, rfl, by rw [rank_num _ hd.ok hnw]⟩))))) (Nat.le_of_ble_eq_true rfl)) fun q H2 nq e2 hq => ret q H2 (fresh_back e1 nq) (ExT.of (e1.trans e2)) (hd.ex' (Ex.del (e1.trans e2) nl)) hq
end
end N
set_option Elab.async false
set_option linter.all false
set_option maxRecDepth 100000
set_option maxHeartbeats 4000000
namespace N
open PySem PySem.Spec PyProof.Rows L2 Evl
open NM (Thing want thingsOf Fits vI FOk)
/-! ### the document's checks, and the program's -/
abbrev kS : List Nat := Vbenaf.W "state"
abbrev kV : List Nat := Vbenaf.W "value"
abbrev kH : List Nat := Vbenaf.W "hole"
abbrev kN : List Nat := Vbenaf.W "longest"
abbrev kHC : List Nat := Vbenaf.W "hole count"
abbrev kVC : List Nat := Vbenaf.W "value count"
abbrev kR : List Nat := Vbenaf.W "row"
abbrev kL : List Nat := Vbenaf.W "labels"
abbrev kC : List Nat := Vbenaf.W "codes"
abbrev kT : List Nat := Vbenaf.W "text"
theorem between_iff (n lo hi : Int) : VbenCore.isBetween n lo hi = true ↔ lo ≤ n ∧ n ≤ hi := by
  unfold VbenCore.isBetween
  rw [Bool.and_eq_true, decide_eq_true_eq, decide_eq_true_eq]
theorem rngC_ok {n lo hi : Int} {o : Option Fld} (h : rngC n lo hi = .ok o) : o = none ∧ lo ≤ n ∧ n ≤ hi := by
  unfold rngC at h
  by_cases h1 : n < lo ∨ hi < n
  · rw [if_pos h1] at h; cases h
  · rw [if_neg h1] at h; cases h; exact ⟨rfl, by omega, by omega⟩
theorem numC_ok {n g c : Int} {o : Option Fld} (h : numC n g c = .ok o) : o = none ∧ 0 ≤ n ∧ n ≤ g ∧ n < c := by
  unfold numC at h
  by_cases h1 : n < 0 ∨ g < n
  · rw [if_pos h1] at h; cases h
  · rw [if_neg h1] at h
    by_cases h2 : c ≤ n
    · rw [if_pos h2] at h; cases h
    · rw [if_neg h2] at h; cases h; exact ⟨rfl, by omega, by omega, by omega⟩
section
variable {f : Fld} {x : Int} {l : List Int}
theorem c_state : chk1 f kS (.num x) = numC x 63 (Vbenaf.states f : Int) := chk1_n.trans ((if_neg (by decide +kernel)).trans ((if_neg (by decide +kernel)).trans ((if_neg (by decide +kernel)).trans (if_pos rfl))))
theorem c_value : chk1 f kV (.num x) = numC x 7 (f.values.length : Int) := chk1_n.trans ((if_neg (by decide +kernel)).trans ((if_neg (by decide +kernel)).trans ((if_neg (by decide +kernel)).trans ((if_neg (by decide +kernel)).trans (if_pos rfl)))))
theorem c_hole : chk1 f kH (.num x) = numC x 5 (f.holes : Int) := chk1_n.trans ((if_neg (by decide +kernel)).trans ((if_neg (by decide +kernel)).trans ((if_neg (by decide +kernel)).trans ((if_neg (by decide +kernel)).trans (if_neg (by decide +kernel))))))
theorem c_long : chk1 f kN (.num x) = rngC x 1 3 := chk1_n.trans (if_pos rfl)
theorem c_hcnt : chk1 f kHC (.num x) = rngC x 1 3 := chk1_n.trans ((if_neg (by decide +kernel)).trans (if_pos rfl))
theorem c_vcnt : chk1 f kVC (.num x) = rngC x 2 8 := chk1_n.trans ((if_neg (by decide +kernel)).trans ((if_neg (by decide +kernel)).trans (if_pos rfl)))
theorem c_row : chk1 f kR (.row l) = (if l.length ≤ 60 ∧ l.all (fun v => decide (0 ≤ v) && decide (v < (f.values.length : Int))) = true then .ok none else .error (-4)) := chk1_r.trans (if_pos rfl)
theorem c_labels : chk1 f kL (.row l) = (if l.length = Vbenaf.states f ∧ l.all (fun v => decide (-1000 ≤ v) && decide (v ≤ 1000)) = true then .ok none else .error (-4)) := chk1_r.trans ((if_neg (by decide +kernel)).trans (if_pos rfl))
theorem c_codes : chk1 f kC (.row l) = (if l.all (fun c => decide (0 ≤ c) && decide (c ≤ 255)) = true then .ok none else .error (-1)) := by
  refine chk1_r.trans ((if_neg (by decide +kernel)).trans ((if_neg (by decide +kernel)).trans ?_))
  by_cases h : l.all (fun c => decide (0 ≤ c) && decide (c ≤ 255)) = true
  · rw [if_pos h, if_pos h, if_neg (by decide +kernel)]
  · rw [if_neg h, if_neg h]
theorem c_text : chk1 f kT (.row l) = (if l.all (fun c => decide (0 ≤ c) && decide (c ≤ 255)) = true then (match Vbenaf.readField (l.map Int.toNat) with
      | .ok x => .ok (some x)
      | .error p => .error (-1000 - (p : Int))) else .error (-1)) := by
  refine chk1_r.trans ((if_neg (by decide +kernel)).trans ((if_neg (by decide +kernel)).trans ?_))
  by_cases h : l.all (fun c => decide (0 ≤ c) && decide (c ≤ 255)) = true
  · rw [if_pos h, if_pos h, if_pos rfl]
    all_goals (cases Vbenaf.readField (l.map Int.toNat) <;> rfl)
  · rw [if_neg h, if_neg h]
end
/-- a number that is checked, as the document takes it -/
def numR (c : Except Int (Option Fld)) (x : Int) : Vbenaf.Res Nat := match c with
  | .error n => .error n
  | .ok _ => .ok x.toNat
theorem ranged_R (x lo hi : Int) : Vbenaf.ranged x lo hi = numR (rngC x lo hi) x := by
  unfold Vbenaf.ranged rngC
  by_cases h1 : x < lo ∨ hi < x
  · rw [if_pos h1, if_neg (fun z => by have := (between_iff _ _ _).mp z; omega)]
    rfl
  · rw [if_neg h1, if_pos ((between_iff _ _ _).mpr (by omega))]
    rfl
theorem numC_R (x g : Int) (c : Nat) : (Vbenaf.ranged x 0 g >>= fun s => if s < c then pure s else .error (-5) : Vbenaf.Res Nat) = numR (numC x g (c : Int)) x := by
  rw [ranged_R]
  unfold numC rngC
  by_cases h1 : x < 0 ∨ g < x
  · rw [if_pos h1, if_pos h1]
    rfl
  · rw [if_neg h1, if_neg h1]
    show (if x.toNat < c then _ else _) = _
    by_cases h2 : (c : Int) ≤ x
    · rw [if_pos h2, if_neg (by omega)]
      rfl
    · rw [if_neg h2, if_pos (by omega)]
      rfl
theorem stateIn_R (f : Fld) (x : Int) : Vbenaf.stateIn f x = numR (chk1 f kS (.num x)) x := by
  rw [c_state, ← numC_R]
  rfl
theorem valueNo_R (f : Fld) (x : Int) : Vbenaf.valueNo f x = numR (chk1 f kV (.num x)) x := by
  rw [c_value, ← numC_R]
  rfl
theorem rowIn_R (f : Fld) (l : List Int) : Vbenaf.rowIn f l = match chk1 f kR (.row l) with
  | .error n => .error n
  | .ok _ => .ok (l.map Int.toNat) := by
  have eb : (l.all fun w => VbenCore.isBetween w 0 ((f.values.length : Int) - 1)) = l.all (fun v => decide (0 ≤ v) && decide (v < (f.values.length : Int))) := by
    congr 1
    funext v
    rw [Bool.eq_iff_iff, between_iff, Bool.and_eq_true, decide_eq_true_eq, decide_eq_true_eq]
    omega
  rw [c_row]
  unfold Vbenaf.rowIn
  rw [eb]
  by_cases h : l.length ≤ 60 ∧ l.all (fun v => decide (0 ≤ v) && decide (v < (f.values.length : Int))) = true
  · rw [if_pos h, if_pos h]
  · rw [if_neg h, if_neg h]
theorem labelsIn_R (f : Fld) (l : List Int) : Vbenaf.labelsIn f l = match chk1 f kL (.row l) with
  | .error n => .error n
  | .ok _ => .ok l := by
  have eb : (l.all fun z => VbenCore.isBetween z (-1000) 1000) = l.all (fun v => decide (-1000 ≤ v) && decide (v ≤ 1000)) := by
    congr 1
  rw [c_labels]
  unfold Vbenaf.labelsIn
  rw [eb]
  by_cases h : l.length = Vbenaf.states f ∧ l.all (fun v => decide (-1000 ≤ v) && decide (v ≤ 1000)) = true
  · rw [if_pos h, if_pos h]
  · rw [if_neg h, if_neg h]
/-! ### what a call does, by its checks and what is behind them -/
abbrev Outc (st : Vbenaf.State) (r : Except Int (Vbenaf.State × List Int)) : Vbenaf.State × List Int := match r with
  | .error n => (st, [n])
  | .ok r => r
abbrev Does (st : Vbenaf.State) (ts : List (List Nat × Thing)) (d : Vbenaf.State → List CV → Except Int (Vbenaf.State × List Int)) : Vbenaf.State × List Int := match chkAll chk1 st.field ts with
  | .error n => (st, [n])
  | .ok cs => match d st cs with
    | .error n => (st, [n])
    | .ok r => r
/-- numbers' kinds -/
def NumK (f : Fld) (kd : List Nat) : Prop := ∀ x o, chk1 f kd (.num x) = .ok o → o = none ∧ 0 ≤ x
theorem nk_S {f : Fld} : NumK f kS := fun x o h => by rw [c_state] at h; exact ⟨(numC_ok h).1, (numC_ok h).2.1⟩
theorem nk_V {f : Fld} : NumK f kV := fun x o h => by rw [c_value] at h; exact ⟨(numC_ok h).1, (numC_ok h).2.1⟩
theorem nk_H {f : Fld} : NumK f kH := fun x o h => by rw [c_hole] at h; exact ⟨(numC_ok h).1, (numC_ok h).2.1⟩
theorem nk_N {f : Fld} : NumK f kN := fun x o h => by rw [c_long] at h; have z := rngC_ok h; exact ⟨z.1, by omega⟩
theorem nk_HC {f : Fld} : NumK f kHC := fun x o h => by rw [c_hcnt] at h; have z := rngC_ok h; exact ⟨z.1, by omega⟩
theorem nk_VC {f : Fld} : NumK f kVC := fun x o h => by rw [c_vcnt] at h; have z := rngC_ok h; exact ⟨z.1, by omega⟩
section
variable {st : Vbenaf.State} {x y : Int} {l : List Int} {kd kd' : List Nat} {d : Vbenaf.State → List CV → Except Int (Vbenaf.State × List Int)}
theorem does_n (h : NumK st.field kd) : Does st [(kd, .num x)] d = Outc st (numR (chk1 st.field kd (.num x)) x >>= fun k => d st [cN k]) := by
  unfold Does chkAll chkAll
  show (match (match chk1 st.field kd (.num x) with | .error n => _ | .ok o => _ : Except Int (List CV)) with | .error n => _ | .ok cs => _) = _
  cases hc : chk1 st.field kd (.num x) with
  | error n => rfl
  | ok o =>
    obtain ⟨rfl, h0⟩ := h x o hc
    obtain ⟨n, rfl⟩ := Int.eq_ofNat_of_zero_le h0
    rfl
theorem does_nn (h : NumK st.field kd) (h' : NumK st.field kd') : Does st [(kd, .num x), (kd', .num y)] d = Outc st (numR (chk1 st.field kd (.num x)) x >>= fun k => numR (chk1 st.field kd' (.num y)) y >>= fun v => d st [cN k, cN v]) := by
  unfold Does chkAll chkAll chkAll
  show (match (match chk1 st.field kd (.num x) with | .error n => _ | .ok o => _ : Except Int (List CV)) with | .error n => _ | .ok cs => _) = _
  cases hc : chk1 st.field kd (.num x) with
  | error n => rfl
  | ok o =>
    obtain ⟨rfl, h0⟩ := h x o hc
    obtain ⟨n, rfl⟩ := Int.eq_ofNat_of_zero_le h0
    show (match (match (match chk1 st.field kd' (.num y) with | .error n => _ | .ok o => _ : Except Int (List CV)) with | .error n => _ | .ok cs => _ : Except Int (List CV)) with | .error n => _ | .ok cs => _) = _
    cases hc2 : chk1 st.field kd' (.num y) with
    | error n => rfl
    | ok o =>
      obtain ⟨rfl, h1⟩ := h' y o hc2
      obtain ⟨m, rfl⟩ := Int.eq_ofNat_of_zero_le h1
      rfl
theorem chk_rowN {f : Fld} {o : Option Fld} (h : chk1 f kR (.row l) = .ok o) : o = none := by
  rw [c_row] at h
  split at h
  · cases h; rfl
  · cases h
theorem chk_labN {f : Fld} {o : Option Fld} (h : chk1 f kL (.row l) = .ok o) : o = none := by
  rw [c_labels] at h
  split at h
  · cases h; rfl
  · cases h
theorem does_nr (h : NumK st.field kd) : Does st [(kd, .num x), (kR, .row l)] d = Outc st (numR (chk1 st.field kd (.num x)) x >>= fun k => Vbenaf.rowIn st.field l >>= fun _ => d st [cN k, .inl (.row l)]) := by
  rw [rowIn_R]
  unfold Does chkAll chkAll chkAll
  show (match (match chk1 st.field kd (.num x) with | .error n => _ | .ok o => _ : Except Int (List CV)) with | .error n => _ | .ok cs => _) = _
  cases hc : chk1 st.field kd (.num x) with
  | error n => rfl
  | ok o =>
    obtain ⟨rfl, h0⟩ := h x o hc
    obtain ⟨n, rfl⟩ := Int.eq_ofNat_of_zero_le h0
    show (match (match (match chk1 st.field kR (.row l) with | .error n => _ | .ok o => _ : Except Int (List CV)) with | .error n => _ | .ok cs => _ : Except Int (List CV)) with | .error n => _ | .ok cs => _) = _
    cases h2 : chk1 st.field kR (.row l) with
    | error n => rfl
    | ok o =>
      obtain rfl := chk_rowN h2
      rfl
theorem does_l : Does st [(kL, .row l)] d = Outc st (Vbenaf.labelsIn st.field l >>= fun _ => d st [.inl (.row l)]) := by
  rw [labelsIn_R]
  unfold Does chkAll chkAll
  show (match (match chk1 st.field kL (.row l) with | .error n => _ | .ok o => _ : Except Int (List CV)) with | .error n => _ | .ok cs => _) = _
  cases h2 : chk1 st.field kL (.row l) with
  | error n => rfl
  | ok o =>
    obtain rfl := chk_labN h2
    rfl
end
theorem step_run {st : Vbenaf.State} {c : List (List Int)} {x : Vbenaf.Call} (h : Vbenaf.decode c = some x) : Vbenaf.step st c = Outc st (Vbenaf.run st x) := by
  unfold Vbenaf.step
  rw [h]
  show (match Vbenaf.run st x with | .ok r => r | .error e => (st, [e])) = _
  cases Vbenaf.run st x with
  | ok r => rfl
  | error e => rfl
theorem bind_congr' {α β : Type} {r : Vbenaf.Res α} {f g : α → Vbenaf.Res β} (h : ∀ a, r = .ok a → f a = g a) : (r >>= f) = (r >>= g) := by
  cases r with
  | error e => rfl
  | ok a => exact h a rfl
theorem rowIn_ok {f : Fld} {l : List Int} {r : List Nat} (h : Vbenaf.rowIn f l = .ok r) : r = l.map Int.toNat := by
  unfold Vbenaf.rowIn at h
  split at h
  · cases h; rfl
  · cases h
theorem labelsIn_ok {f : Fld} {l r : List Int} (h : Vbenaf.labelsIn f l = .ok r) : r = l := by
  unfold Vbenaf.labelsIn at h
  split at h
  · cases h; rfl
  · cases h
section
variable (st : Vbenaf.State) (x y : Int) (l : List Int)
theorem step_clear : Vbenaf.step st [[0]] = Does st [] dClear := rfl
theorem step_text : Vbenaf.step st [[3]] = Does st [] dText := rfl
theorem step_told : Vbenaf.step st [[4]] = Does st [] dTold := rfl
theorem step_ranks : Vbenaf.step st [[7]] = Does st [] dRanks := rfl
theorem step_new : Vbenaf.step st [[17]] = Does st [] dNew := rfl
theorem step_card : Vbenaf.step st [[20]] = Does st [] dCard := rfl
theorem step_value : Vbenaf.step st [[5, x]] = Does st [(kS, .num x)] dValue := by
  rw [step_run (x := .value x) rfl, does_n nk_S, ← stateIn_R]
  rfl
theorem step_worst : Vbenaf.step st [[9, x]] = Does st [(kS, .num x)] dWorst := by
  rw [step_run (x := .worst x) rfl, does_n nk_S, ← stateIn_R]
  rfl
theorem step_before : Vbenaf.step st [[21, x]] = Does st [(kS, .num x)] dBefore := by
  rw [step_run (x := .undo x) rfl, does_n nk_S, ← stateIn_R]
  rfl
theorem step_ways : Vbenaf.step st [[6, x, y]] = Does st [(kS, .num x), (kV, .num y)] dWays := by
  rw [step_run (x := .ways x y) rfl, does_nn nk_S nk_V, ← stateIn_R, ← valueNo_R]
  rfl
theorem step_go : Vbenaf.step st [[8, x, y]] = Does st [(kS, .num x), (kV, .num y)] dGo := by
  rw [step_run (x := .go x y) rfl, does_nn nk_S nk_V, ← stateIn_R, ← valueNo_R]
  refine congrArg (Outc st) (bind_congr' fun k _ => bind_congr' fun v _ => ?_)
  show (match Vbenaf.goTo st.field k v with
      | none => pure (st, [0])
      | some t => pure (st, [1, (t : Int), ((Vbenaf.count st.field.holes t - Vbenaf.count st.field.holes k : Nat) : Int), Vbenaf.rankNum (Vbenaf.rank st.field t)]) : Vbenaf.Res _) = (match Vbenaf.goTo st.field k v with
      | none => .ok (st, [0])
      | some t => .ok (st, [1, (t : Int), ((Vbenaf.count st.field.holes t - Vbenaf.count st.field.holes k : Nat) : Int), Vbenaf.rankNum (Vbenaf.rank st.field t)]) : Except Int (Vbenaf.State × List Int))
  cases Vbenaf.goTo st.field k v <;> rfl
theorem step_carry : Vbenaf.step st [[10, x], l] = Does st [(kS, .num x), (kR, .row l)] dCarry := by
  rw [step_run (x := .carry x l) rfl, does_nr nk_S, ← stateIn_R]
  refine congrArg (Outc st) (bind_congr' fun k _ => bind_congr' fun r hr => ?_)
  rw [rowIn_ok hr]
  rfl
theorem step_far : Vbenaf.step st [[14, x], l] = Does st [(kS, .num x), (kR, .row l)] dFar := by
  rw [step_run (x := .far x l) rfl, does_nr nk_S, ← stateIn_R]
  refine congrArg (Outc st) (bind_congr' fun k _ => bind_congr' fun r hr => ?_)
  rw [rowIn_ok hr]
  rfl
theorem step_may : Vbenaf.step st [[15, x], l] = Does st [(kS, .num x), (kR, .row l)] dMay := by
  rw [step_run (x := .may x l) rfl, does_nr nk_S, ← stateIn_R]
  refine congrArg (Outc st) (bind_congr' fun k _ => bind_congr' fun r hr => ?_)
  rw [rowIn_ok hr]
  rfl
theorem step_lower : Vbenaf.step st [[11], l] = Does st [(kL, .row l)] dLower := by
  rw [step_run (x := .lower l) rfl, does_l]
  refine congrArg (Outc st) (bind_congr' fun r hr => ?_)
  rw [labelsIn_ok hr]
  show (match Vbenaf.badLower st.field l with
      | none => pure (st, [1, l.getD 0 0])
      | some k => pure (st, [0, (k : Int)]) : Vbenaf.Res _) = .ok (st, judge l (Vbenaf.badLower st.field l))
  cases Vbenaf.badLower st.field l <;> rfl
theorem step_upper : Vbenaf.step st [[12], l] = Does st [(kL, .row l)] dUpper := by
  rw [step_run (x := .upper l) rfl, does_l]
  refine congrArg (Outc st) (bind_congr' fun r hr => ?_)
  rw [labelsIn_ok hr]
  show (match Vbenaf.badUpper st.field l with
      | none => pure (st, [1, l.getD 0 0])
      | some k => pure (st, [0, (k : Int)]) : Vbenaf.Res _) = .ok (st, judge l (Vbenaf.badUpper st.field l))
  cases Vbenaf.badUpper st.field l <;> rfl
theorem step_known : Vbenaf.step st [[13, x, y]] = Does st [(kS, .num x), (kN, .num y)] dKnown := by
  rw [step_run (x := .known x y) rfl, does_nn nk_S nk_N, ← stateIn_R, c_long, ← ranged_R]
  refine congrArg (Outc st) (bind_congr' fun k _ => bind_congr' fun n _ => ?_)
  show (match Vbenaf.stuck st.field k n with
      | none => pure (st, [1])
      | some r => pure (st, 0 :: Vbenaf.listRow r) : Vbenaf.Res _) = (match Vbenaf.stuck st.field k n with
      | none => .ok (st, [1])
      | some r => .ok (st, 0 :: Vbenaf.listRow r) : Except Int (Vbenaf.State × List Int))
  cases Vbenaf.stuck st.field k n <;> rfl
theorem step_best : Vbenaf.step st [[16, x, y]] = Does st [(kHC, .num x), (kVC, .num y)] dBest := by
  rw [step_run (x := .best x y) rfl, does_nn nk_HC nk_VC, c_hcnt, c_vcnt, ← ranged_R, ← ranged_R]
  rfl
theorem step_change : Vbenaf.step st [[18, x]] = Does st [(kV, .num x)] dChange := by
  rw [step_run (x := .change x) rfl, does_n nk_V, ← valueNo_R]
  refine congrArg (Outc st) (bind_congr' fun w _ => ?_)
  show (if Vbenaf.valueOf st.field st.now = some w then pure (st, [(st.now : Int), 0])
    else if (Vbenaf.asked st.field st.now).contains w = false then .error (-6)
    else match Vbenaf.goTo st.field st.now w with
      | none => .error (-7)
      | some t => pure ({ st with now := t, made := st.made + 1 }, [(t : Int), ((Vbenaf.count st.field.holes t - Vbenaf.count st.field.holes st.now : Nat) : Int)]) : Vbenaf.Res _) = (if Vbenaf.valueOf st.field st.now = some w then .ok (st, [(st.now : Int), 0])
    else if (Vbenaf.asked st.field st.now).contains w = false then .error (-6)
    else match Vbenaf.goTo st.field st.now w with
      | none => .error (-7)
      | some t => .ok ({ st with now := t, made := st.made + 1 }, [(t : Int), ((Vbenaf.count st.field.holes t - Vbenaf.count st.field.holes st.now : Nat) : Int)]) : Except Int (Vbenaf.State × List Int))
  split
  · rfl
  · split
    · rfl
    · cases Vbenaf.goTo st.field st.now w <;> rfl
theorem step_notch : Vbenaf.step st [[19, x]] = Does st [(kH, .num x)] dNotch := by
  rw [step_run (x := .notch x) rfl, does_n nk_H, c_hole]
  refine congrArg (Outc st) ?_
  show (Vbenaf.ranged x 0 5 >>= fun h => if st.field.holes ≤ h then .error (-5) else if Vbenaf.bit st.now h = true then .error (-6) else pure ({ st with now := st.now + 2 ^ h }, [((st.now + 2 ^ h : Nat) : Int)]) : Vbenaf.Res _) = _
  rw [← numC_R]
  cases Vbenaf.ranged x 0 5 with
  | error n => rfl
  | ok h =>
    show (if st.field.holes ≤ h then .error (-5) else if Vbenaf.bit st.now h = true then .error (-6) else pure ({ st with now := st.now + 2 ^ h }, [((st.now + 2 ^ h : Nat) : Int)]) : Vbenaf.Res _) = ((if h < st.field.holes then pure h else .error (-5) : Vbenaf.Res Nat) >>= fun k => dNotch st [cN k])
    by_cases hc : st.field.holes ≤ h
    · have e : (if h < st.field.holes then pure h else .error (-5) : Vbenaf.Res Nat) = .error (-5) := if_neg (by omega)
      rw [if_pos hc, e]
      rfl
    · have e : (if h < st.field.holes then pure h else .error (-5) : Vbenaf.Res Nat) = pure h := if_pos (by omega)
      rw [if_neg hc, e]
      rfl
theorem bytes_eq (t : List Int) : (t.all fun c => VbenCore.isBetween c 0 255) = t.all (fun c => decide (0 ≤ c) && decide (c ≤ 255)) := rfl
theorem textIn_yes {t : List Int} (hl : t.length ≤ 2000) (h : t.all (fun c => decide (0 ≤ c) && decide (c ≤ 255)) = true) : Vbenaf.textIn t = .ok (t.map Int.toNat) := by
  unfold Vbenaf.textIn VbenCore.bytesIn
  rw [if_pos ⟨by rw [bytes_eq]; exact h, hl⟩]
theorem textIn_no {t : List Int} (h : ¬ t.all (fun c => decide (0 ≤ c) && decide (c ≤ 255)) = true) : Vbenaf.textIn t = .error (-1) := by
  unfold Vbenaf.textIn VbenCore.bytesIn
  rw [if_neg (fun z => h (by rw [← bytes_eq]; exact z.1))]
theorem step_field (t : List Int) (hl : t.length ≤ 2000) : Vbenaf.step st [[1], t] = Does st [(kT, .row t)] dField := by
  rw [step_run (x := .field t) rfl]
  show Outc st (Vbenaf.textIn t >>= fun b => (match Vbenaf.readField b with
      | .error p => .error (-1000 - (p : Int))
      | .ok f => pure ({ field := f, now := 0, made := 0 }, VbenCore.ints [f.holes, f.values.length, (f.table.filter fun x => x.isSome).length])) : Vbenaf.Res (Vbenaf.State × List Int)) = _
  unfold Does chkAll chkAll
  show _ = (match (match chk1 st.field kT (.row t) with | .error n => _ | .ok o => _ : Except Int (List CV)) with | .error n => _ | .ok cs => _)
  rw [c_text]
  by_cases h : t.all (fun c => decide (0 ≤ c) && decide (c ≤ 255)) = true
  · rw [if_pos h, textIn_yes hl h]
    show Outc st (match Vbenaf.readField (t.map Int.toNat) with
      | .error p => .error (-1000 - (p : Int))
      | .ok f => pure ({ field := f, now := 0, made := 0 }, VbenCore.ints [f.holes, f.values.length, (f.table.filter fun x => x.isSome).length]) : Vbenaf.Res (Vbenaf.State × List Int)) = _
    cases Vbenaf.readField (t.map Int.toNat) with
    | error p => rfl
    | ok f => rfl
  · rw [if_neg h, textIn_no h]
    rfl
theorem step_look (t : List Int) (hl : t.length ≤ 2000) : Vbenaf.step st [[2], t] = Does st [(kC, .row t)] dLook := by
  rw [step_run (x := .look t) rfl]
  show Outc st (Vbenaf.textIn t >>= fun b => (match Vbenaf.readField b with
      | .error p => pure (st, [1, (p : Int)])
      | .ok f => pure (st, [0])) : Vbenaf.Res (Vbenaf.State × List Int)) = _
  unfold Does chkAll chkAll
  show _ = (match (match chk1 st.field kC (.row t) with | .error n => _ | .ok o => _ : Except Int (List CV)) with | .error n => _ | .ok cs => _)
  rw [c_codes]
  by_cases h : t.all (fun c => decide (0 ≤ c) && decide (c ≤ 255)) = true
  · rw [if_pos h, textIn_yes hl h]
    show Outc st (match Vbenaf.readField (t.map Int.toNat) with
      | .error p => pure (st, [1, (p : Int)])
      | .ok f => pure (st, [0]) : Vbenaf.Res (Vbenaf.State × List Int)) = (match (match Vbenaf.readField (t.map Int.toNat) with
      | .error p => .ok (st, [1, (p : Int)])
      | .ok _ => .ok (st, [0]) : Except Int (Vbenaf.State × List Int)) with | .error n => (st, [n]) | .ok r => r)
    cases Vbenaf.readField (t.map Int.toNat) with
    | error p => rfl
    | ok f => rfl
  · rw [if_neg h, textIn_no h]
    rfl
end
/-! ### what is checked holds -/
theorem nats_of {l : List Int} (h : ∀ z ∈ l, 0 ≤ z) : l = VbenCore.ints (l.map Int.toNat) := by
  unfold VbenCore.ints
  rw [List.map_map]
  conv => lhs; rw [← List.map_id l]
  refine List.map_congr_left fun z hz => ?_
  show z = ((z.toNat : Nat) : Int)
  rw [Int.toNat_of_nonneg (h z hz)]
theorem chk_row {f : Fld} {l : List Int} {o : Option Fld} (h : chk1 f kR (.row l) = .ok o) : o = none ∧ ∃ row : List Nat, l = VbenCore.ints row ∧ row.length ≤ 60 ∧ ∀ x ∈ row, x < f.values.length := by
  rw [c_row] at h
  by_cases hc : l.length ≤ 60 ∧ l.all (fun v => decide (0 ≤ v) && decide (v < (f.values.length : Int))) = true
  · rw [if_pos hc] at h
    cases h
    have ha : ∀ z ∈ l, 0 ≤ z ∧ z < (f.values.length : Int) := fun z hz => by
      have q := List.all_eq_true.mp hc.2 z hz
      rw [Bool.and_eq_true, decide_eq_true_eq, decide_eq_true_eq] at q
      exact q
    refine ⟨rfl, l.map Int.toNat, nats_of fun z hz => (ha z hz).1, by rw [List.length_map]; exact hc.1, fun x hx => ?_⟩
    obtain ⟨z, hz, rfl⟩ := List.mem_map.mp hx
    have := ha z hz
    omega
  · rw [if_neg hc] at h; cases h
theorem all_bytes {l : List Int} (h : l.all (fun c => decide (0 ≤ c) && decide (c ≤ 255)) = true) : ∀ z ∈ l, 0 ≤ z ∧ z ≤ 255 := fun z hz => by
  have q := List.all_eq_true.mp h z hz
  rw [Bool.and_eq_true, decide_eq_true_eq, decide_eq_true_eq] at q
  exact q
theorem chkAll_one {chk : Fld → List Nat → Thing → Except Int (Option Fld)} {f : Fld} {t : List Nat × Thing} {cs : List CV} (h : chkAll chk f [t] = .ok cs) : ∃ o, chk f t.1 t.2 = .ok o ∧ cs = [match o with | none => .inl t.2 | some x => .inr x] := by
  unfold chkAll chkAll at h
  cases hc : chk f t.1 t.2 with
  | error n => rw [hc] at h; cases h
  | ok o => rw [hc] at h; cases h; exact ⟨o, rfl, rfl⟩
theorem chkAll_two {chk : Fld → List Nat → Thing → Except Int (Option Fld)} {f : Fld} {t u : List Nat × Thing} {cs : List CV} (h : chkAll chk f [t, u] = .ok cs) : ∃ o r, chk f t.1 t.2 = .ok o ∧ chk f u.1 u.2 = .ok r ∧ cs = [match o with | none => .inl t.2 | some x => .inr x, match r with | none => .inl u.2 | some x => .inr x] := by
  unfold chkAll at h
  cases hc : chk f t.1 t.2 with
  | error n => rw [hc] at h; cases h
  | ok o =>
    rw [hc] at h
    cases hd : chkAll chk f [u] with
    | error n => rw [hd] at h; cases h
    | ok cs2 =>
      rw [hd] at h
      obtain ⟨r, hr, rfl⟩ := chkAll_one hd
      cases h
      exact ⟨o, r, rfl, hr, rfl⟩
theorem numC_nat {n g : Int} {c : Nat} {o : Option Fld} (h : numC n g (c : Int) = .ok o) : o = none ∧ ∃ k : Nat, n = (k : Int) ∧ k < c := by
  have z := numC_ok h
  exact ⟨z.1, n.toNat, by omega, by omega⟩
section
variable {st : Vbenaf.State} {x y : Int} {l : List Int} {cs : List CV}
theorem ok_s (h : chkAll chk1 st.field [(kS, .num x)] = .ok cs) : okS st cs := by
  obtain ⟨o, ho, rfl⟩ := chkAll_one h
  obtain ⟨rfl, n, rfl, hn⟩ := numC_nat (c_state.symm.trans ho)
  exact ⟨n, rfl, hn⟩
theorem ok_sv (h : chkAll chk1 st.field [(kS, .num x), (kV, .num y)] = .ok cs) : okSV st cs := by
  obtain ⟨o, r, ho, hr, rfl⟩ := chkAll_two h
  obtain ⟨rfl, n, rfl, hn⟩ := numC_nat (c_state.symm.trans ho)
  obtain ⟨rfl, m, rfl, hm⟩ := numC_nat (c_value.symm.trans hr)
  exact ⟨n, m, rfl, hn, hm⟩
theorem ok_v (h : chkAll chk1 st.field [(kV, .num x)] = .ok cs) : okV st cs := by
  obtain ⟨o, ho, rfl⟩ := chkAll_one h
  obtain ⟨rfl, n, rfl, hn⟩ := numC_nat (c_value.symm.trans ho)
  exact ⟨n, rfl, hn⟩
theorem ok_h (h : chkAll chk1 st.field [(kH, .num x)] = .ok cs) : okHo st cs := by
  obtain ⟨o, ho, rfl⟩ := chkAll_one h
  obtain ⟨rfl, n, rfl, hn⟩ := numC_nat (c_hole.symm.trans ho)
  exact ⟨n, rfl, hn⟩
theorem ok_sn (h : chkAll chk1 st.field [(kS, .num x), (kN, .num y)] = .ok cs) : okSN st cs := by
  obtain ⟨o, r, ho, hr, rfl⟩ := chkAll_two h
  obtain ⟨rfl, n, rfl, hn⟩ := numC_nat (c_state.symm.trans ho)
  obtain ⟨rfl, h1, h2⟩ := rngC_ok (c_long.symm.trans hr)
  obtain ⟨m, rfl⟩ := Int.eq_ofNat_of_zero_le (show 0 ≤ y by omega)
  exact ⟨n, m, rfl, hn, by omega⟩
theorem ok_hv (h : chkAll chk1 st.field [(kHC, .num x), (kVC, .num y)] = .ok cs) : okHV st cs := by
  obtain ⟨o, r, ho, hr, rfl⟩ := chkAll_two h
  obtain ⟨rfl, g1, g2⟩ := rngC_ok (c_hcnt.symm.trans ho)
  obtain ⟨rfl, h1, h2⟩ := rngC_ok (c_vcnt.symm.trans hr)
  obtain ⟨n, rfl⟩ := Int.eq_ofNat_of_zero_le (show 0 ≤ x by omega)
  obtain ⟨m, rfl⟩ := Int.eq_ofNat_of_zero_le (show 0 ≤ y by omega)
  exact ⟨n, m, rfl, by omega, by omega, by omega, by omega⟩
theorem ok_sr (h : chkAll chk1 st.field [(kS, .num x), (kR, .row l)] = .ok cs) : okSR st cs := by
  obtain ⟨o, r, ho, hr, rfl⟩ := chkAll_two h
  obtain ⟨rfl, n, rfl, hn⟩ := numC_nat (c_state.symm.trans ho)
  obtain ⟨rfl, row, rfl, h1, h2⟩ := chk_row hr
  exact ⟨n, row, rfl, hn, h1, h2⟩
theorem ok_l (h : chkAll chk1 st.field [(kL, .row l)] = .ok cs) : okL st cs := by
  obtain ⟨o, ho, rfl⟩ := chkAll_one h
  obtain rfl := chk_labN ho
  replace ho : chk1 st.field kL (.row l) = .ok none := ho
  rw [c_labels] at ho
  split at ho
  · rename_i hc
    exact ⟨l, rfl, hc.1⟩
  · cases ho
theorem ok_c (hl : l.length ≤ 2000) (h : chkAll chk1 st.field [(kC, .row l)] = .ok cs) : okB st cs := by
  obtain ⟨o, ho, rfl⟩ := chkAll_one h
  replace ho : chk1 st.field kC (.row l) = .ok o := ho
  rw [c_codes] at ho
  by_cases hc : l.all (fun c => decide (0 ≤ c) && decide (c ≤ 255)) = true
  · rw [if_pos hc] at ho
    cases ho
    have e := nats_of fun z hz => (all_bytes hc z hz).1
    refine ⟨l.map Int.toNat, ?_, by rw [List.length_map]; exact hl, fun x hx => ?_⟩
    · rw [← e]
    · obtain ⟨z, hz, rfl⟩ := List.mem_map.mp hx
      have := all_bytes hc z hz
      omega
  · rw [if_neg hc] at ho; cases ho
theorem ok_t (h : chkAll chk1 st.field [(kT, .row l)] = .ok cs) : okF st cs := by
  obtain ⟨o, ho, rfl⟩ := chkAll_one h
  replace ho : chk1 st.field kT (.row l) = .ok o := ho
  rw [c_text] at ho
  by_cases hc : l.all (fun c => decide (0 ≤ c) && decide (c ≤ 255)) = true
  · rw [if_pos hc] at ho
    cases hr : Vbenaf.readField (l.map Int.toNat) with
    | error p => rw [hr] at ho; cases ho
    | ok x => rw [hr] at ho; cases ho; exact ⟨x, rfl⟩
  · rw [if_neg hc] at ho; cases ho
theorem ok_no (h : chkAll chk1 st.field [] = .ok cs) : okNo st cs := by
  cases h
  rfl
end
end N
set_option Elab.async false
set_option linter.all false
set_option maxRecDepth 100000
set_option maxHeartbeats 4000000
namespace N
open PySem PySem.Spec PyProof.Rows L2 Evl
open NM (Thing want thingsOf Fits vI FOk)
/-! ### the calls that there are -/
inductive SCase : Int → Nat → Nat → Prop
  | c0 : SCase 0 0 0
  | c1 : SCase 1 0 1
  | c2 : SCase 2 0 1
  | c3 : SCase 3 0 0
  | c4 : SCase 4 0 0
  | c5 : SCase 5 1 0
  | c6 : SCase 6 2 0
  | c7 : SCase 7 0 0
  | c8 : SCase 8 2 0
  | c9 : SCase 9 1 0
  | c10 : SCase 10 1 1
  | c11 : SCase 11 0 1
  | c12 : SCase 12 0 1
  | c13 : SCase 13 2 0
  | c14 : SCase 14 1 1
  | c15 : SCase 15 1 1
  | c16 : SCase 16 2 0
  | c17 : SCase 17 0 0
  | c18 : SCase 18 1 0
  | c19 : SCase 19 1 0
  | c20 : SCase 20 0 0
  | c21 : SCase 21 1 0
theorem shape_case {p : Int} {n k : Nat} (h : PyVbenaf.shape p = some (n, k)) : SCase p n k := by
  unfold PyVbenaf.shape at h
  by_cases h0 : p = 0
  · rw [if_pos h0] at h; subst h0; cases h; exact .c0
  rw [if_neg h0] at h
  by_cases h1 : p = 1
  · rw [if_pos h1] at h; subst h1; cases h; exact .c1
  rw [if_neg h1] at h
  by_cases h2 : p = 2
  · rw [if_pos h2] at h; subst h2; cases h; exact .c2
  rw [if_neg h2] at h
  by_cases h3 : p = 3
  · rw [if_pos h3] at h; subst h3; cases h; exact .c3
  rw [if_neg h3] at h
  by_cases h4 : p = 4
  · rw [if_pos h4] at h; subst h4; cases h; exact .c4
  rw [if_neg h4] at h
  by_cases h5 : p = 5
  · rw [if_pos h5] at h; subst h5; cases h; exact .c5
  rw [if_neg h5] at h
  by_cases h6 : p = 6
  · rw [if_pos h6] at h; subst h6; cases h; exact .c6
  rw [if_neg h6] at h
  by_cases h7 : p = 7
  · rw [if_pos h7] at h; subst h7; cases h; exact .c7
  rw [if_neg h7] at h
  by_cases h8 : p = 8
  · rw [if_pos h8] at h; subst h8; cases h; exact .c8
  rw [if_neg h8] at h
  by_cases h9 : p = 9
  · rw [if_pos h9] at h; subst h9; cases h; exact .c9
  rw [if_neg h9] at h
  by_cases h10 : p = 10
  · rw [if_pos h10] at h; subst h10; cases h; exact .c10
  rw [if_neg h10] at h
  by_cases h11 : p = 11
  · rw [if_pos h11] at h; subst h11; cases h; exact .c11
  rw [if_neg h11] at h
  by_cases h12 : p = 12
  · rw [if_pos h12] at h; subst h12; cases h; exact .c12
  rw [if_neg h12] at h
  by_cases h13 : p = 13
  · rw [if_pos h13] at h; subst h13; cases h; exact .c13
  rw [if_neg h13] at h
  by_cases h14 : p = 14
  · rw [if_pos h14] at h; subst h14; cases h; exact .c14
  rw [if_neg h14] at h
  by_cases h15 : p = 15
  · rw [if_pos h15] at h; subst h15; cases h; exact .c15
  rw [if_neg h15] at h
  by_cases h16 : p = 16
  · rw [if_pos h16] at h; subst h16; cases h; exact .c16
  rw [if_neg h16] at h
  by_cases h17 : p = 17
  · rw [if_pos h17] at h; subst h17; cases h; exact .c17
  rw [if_neg h17] at h
  by_cases h18 : p = 18
  · rw [if_pos h18] at h; subst h18; cases h; exact .c18
  rw [if_neg h18] at h
  by_cases h19 : p = 19
  · rw [if_pos h19] at h; subst h19; cases h; exact .c19
  rw [if_neg h19] at h
  by_cases h20 : p = 20
  · rw [if_pos h20] at h; subst h20; cases h; exact .c20
  rw [if_neg h20] at h
  by_cases h21 : p = 21
  · rw [if_pos h21] at h; subst h21; cases h; exact .c21
  rw [if_neg h21] at h
  cases h
/-- the kinds of what each call is given -/
def gv (p : Int) : List (List Nat) := if p = 0 then [] else if p = 1 then [kT] else if p = 2 then [kC] else if p = 3 then [] else if p = 4 then [] else if p = 5 then [kS] else if p = 6 then [kS, kV] else if p = 7 then [] else if p = 8 then [kS, kV] else if p = 9 then [kS] else if p = 10 then [kS, kR] else if p = 11 then [kL] else if p = 12 then [kL] else if p = 13 then [kS, kN] else if p = 14 then [kS, kR] else if p = 15 then [kS, kR] else if p = 16 then [kHC, kVC] else if p = 17 then [] else if p = 18 then [kV] else if p = 19 then [kH] else if p = 20 then [] else if p = 21 then [kS] else []
abbrev gls : List (List Nat) := [kT, kC, kR, kL]
theorem gv_fits : Fits PyVbenaf.shape gv (fun k => gls.contains k) := fun p n k h => by
  cases shape_case h
  · exact ⟨[], [], rfl, rfl, rfl, by decide +kernel, by decide +kernel⟩
  · exact ⟨[], [kT], rfl, rfl, rfl, by decide +kernel, by decide +kernel⟩
  · exact ⟨[], [kC], rfl, rfl, rfl, by decide +kernel, by decide +kernel⟩
  · exact ⟨[], [], rfl, rfl, rfl, by decide +kernel, by decide +kernel⟩
  · exact ⟨[], [], rfl, rfl, rfl, by decide +kernel, by decide +kernel⟩
  · exact ⟨[kS], [], rfl, rfl, rfl, by decide +kernel, by decide +kernel⟩
  · exact ⟨[kS, kV], [], rfl, rfl, rfl, by decide +kernel, by decide +kernel⟩
  · exact ⟨[], [], rfl, rfl, rfl, by decide +kernel, by decide +kernel⟩
  · exact ⟨[kS, kV], [], rfl, rfl, rfl, by decide +kernel, by decide +kernel⟩
  · exact ⟨[kS], [], rfl, rfl, rfl, by decide +kernel, by decide +kernel⟩
  · exact ⟨[kS], [kR], rfl, rfl, rfl, by decide +kernel, by decide +kernel⟩
  · exact ⟨[], [kL], rfl, rfl, rfl, by decide +kernel, by decide +kernel⟩
  · exact ⟨[], [kL], rfl, rfl, rfl, by decide +kernel, by decide +kernel⟩
  · exact ⟨[kS, kN], [], rfl, rfl, rfl, by decide +kernel, by decide +kernel⟩
  · exact ⟨[kS], [kR], rfl, rfl, rfl, by decide +kernel, by decide +kernel⟩
  · exact ⟨[kS], [kR], rfl, rfl, rfl, by decide +kernel, by decide +kernel⟩
  · exact ⟨[kHC, kVC], [], rfl, rfl, rfl, by decide +kernel, by decide +kernel⟩
  · exact ⟨[], [], rfl, rfl, rfl, by decide +kernel, by decide +kernel⟩
  · exact ⟨[kV], [], rfl, rfl, rfl, by decide +kernel, by decide +kernel⟩
  · exact ⟨[kH], [], rfl, rfl, rfl, by decide +kernel, by decide +kernel⟩
  · exact ⟨[], [], rfl, rfl, rfl, by decide +kernel, by decide +kernel⟩
  · exact ⟨[kS], [], rfl, rfl, rfl, by decide +kernel, by decide +kernel⟩
theorem gv_few (p : Int) (n k : Nat) (h : PyVbenaf.shape p = some (n, k)) : (gv p).length ≤ 100000 := by
  cases shape_case h <;> exact Nat.le_of_ble_eq_true rfl
/-- a call that may be asked -/
inductive ACase : List (List Int) → Prop
  | c0 : ACase [[0]]
  | c1 (l : List Int) (h : l.length ≤ 2000) : ACase [[1], l]
  | c2 (l : List Int) (h : l.length ≤ 2000) : ACase [[2], l]
  | c3 : ACase [[3]]
  | c4 : ACase [[4]]
  | c5 (x : Int) : ACase [[5, x]]
  | c6 (x : Int) (y : Int) : ACase [[6, x, y]]
  | c7 : ACase [[7]]
  | c8 (x : Int) (y : Int) : ACase [[8, x, y]]
  | c9 (x : Int) : ACase [[9, x]]
  | c10 (x : Int) (l : List Int) (h : l.length ≤ 2000) : ACase [[10, x], l]
  | c11 (l : List Int) (h : l.length ≤ 2000) : ACase [[11], l]
  | c12 (l : List Int) (h : l.length ≤ 2000) : ACase [[12], l]
  | c13 (x : Int) (y : Int) : ACase [[13, x, y]]
  | c14 (x : Int) (l : List Int) (h : l.length ≤ 2000) : ACase [[14, x], l]
  | c15 (x : Int) (l : List Int) (h : l.length ≤ 2000) : ACase [[15, x], l]
  | c16 (x : Int) (y : Int) : ACase [[16, x, y]]
  | c17 : ACase [[17]]
  | c18 (x : Int) : ACase [[18, x]]
  | c19 (x : Int) : ACase [[19, x]]
  | c20 : ACase [[20]]
  | c21 (x : Int) : ACase [[21, x]]
def Ask (c : List (List Int)) : Prop := ACase c
theorem whole_id (c : List (List Int)) : PyVbenaf.whole c = c := by
  unfold PyVbenaf.whole
  split <;> rfl
theorem rows_len : ∀ {k : Nat} {r : List Int} {xs : List (List Int)} {t : List Int}, PyFlat.rows k r = some (xs, t) → xs.length = k
  | 0, r, xs, t, h => by cases h; rfl
  | k + 1, r, xs, t, h => by
    unfold PyFlat.rows at h
    cases h1 : PyFlat.row r with
    | none => rw [h1] at h; cases h
    | some y =>
      rw [h1] at h
      dsimp only at h
      cases h2 : PyFlat.rows k y.2 with
      | none => rw [h2] at h; cases h
      | some z =>
        rw [h2] at h
        cases h
        rw [List.length_cons, rows_len h2]
theorem call_shape {l : List Int} {c : List (List Int)} {t : List Int} (h : PyFlat.call PyVbenaf.shape l = some (c, t)) : ∃ p nums rows, c = (p :: nums) :: rows ∧ SCase p nums.length rows.length := by
  cases l with
  | nil => cases h
  | cons p r =>
    unfold PyFlat.call at h
    dsimp only at h
    cases hs : PyVbenaf.shape p with
    | none => rw [hs] at h; cases h
    | some y =>
      obtain ⟨n, k⟩ := y
      rw [hs] at h
      dsimp only at h
      by_cases hn : r.length < n
      · rw [if_pos hn] at h; cases h
      · rw [if_neg hn] at h
        cases hr : PyFlat.rows k (r.drop n) with
        | none => rw [hr] at h; cases h
        | some z =>
          rw [hr] at h
          cases h
          refine ⟨p, _, _, rfl, ?_⟩
          rw [rows_len hr, List.length_take, Nat.min_eq_left (by omega)]
          exact shape_case hs
theorem calls_shape : ∀ {f : Nat} {l : List Int} {raw : List (List (List Int))}, PyFlat.calls PyVbenaf.shape f l = some raw → ∀ c ∈ raw, ∃ p nums rows, c = (p :: nums) :: rows ∧ SCase p nums.length rows.length
  | f, [], raw, h => fun c hc => by
    unfold PyFlat.calls at h
    cases h
    cases hc
  | 0, p :: r, raw, h => by cases h
  | f + 1, p :: r, raw, h => fun c hc => by
    unfold PyFlat.calls at h
    cases h1 : PyFlat.call PyVbenaf.shape (p :: r) with
    | none => rw [h1] at h; cases h
    | some y =>
      obtain ⟨c0, t⟩ := y
      rw [h1] at h
      dsimp only at h
      cases h2 : PyFlat.calls PyVbenaf.shape f t with
      | none => rw [h2] at h; cases h
      | some cs =>
        rw [h2] at h
        cases h
        rcases List.mem_cons.mp hc with z | z
        · rw [z]
          exact call_shape h1
        · exact calls_shape h2 c z
theorem len0 {α : Type} {l : List α} (h : 0 = l.length) : l = [] := List.length_eq_zero_iff.mp h.symm
theorem len1 {α : Type} {l : List α} (h : 1 = l.length) : ∃ x, l = [x] := List.length_eq_one_iff.mp h.symm
theorem len2 {α : Type} : ∀ {l : List α}, 2 = l.length → ∃ x y, l = [x, y]
  | [x, y], _ => ⟨x, y, rfl⟩
  | [], h => by cases h
  | [_], h => by cases h
  | _ :: _ :: _ :: _, h => by simp at h
theorem lists_len {lo hi : Int} {l : List Int} (h : PyInside.lists [(lo, hi, 0, 2000)] [l] = true) : l.length ≤ 2000 := by
  unfold PyInside.lists at h
  rw [Bool.and_eq_true, Bool.and_eq_true, Bool.and_eq_true, decide_eq_true_eq, decide_eq_true_eq] at h
  exact h.1.1.2
theorem ask_of {p : Int} {nums : List Int} {rows : List (List Int)} (h : SCase p nums.length rows.length) (hb : PyInside.call PyVbenaf.bound ((p :: nums) :: rows) = true) : Ask ((p :: nums) :: rows) := by
  generalize hn : nums.length = n at h
  generalize hk : rows.length = k at h
  cases h
  · obtain rfl := len0 hn.symm; obtain rfl := len0 hk.symm; exact .c0 
  · obtain rfl := len0 hn.symm; obtain ⟨l, rfl⟩ := len1 hk.symm
    have z : (PyInside.each (PyVbenaf.bound 1).1 [] && PyInside.lists [(-9223372036854775808, 9223372036854775807, 0, 2000)] [l]) = true := hb
    rw [Bool.and_eq_true] at z
    exact .c1 l (lists_len z.2)
  · obtain rfl := len0 hn.symm; obtain ⟨l, rfl⟩ := len1 hk.symm
    have z : (PyInside.each (PyVbenaf.bound 2).1 [] && PyInside.lists [(-9223372036854775808, 9223372036854775807, 0, 2000)] [l]) = true := hb
    rw [Bool.and_eq_true] at z
    exact .c2 l (lists_len z.2)
  · obtain rfl := len0 hn.symm; obtain rfl := len0 hk.symm; exact .c3 
  · obtain rfl := len0 hn.symm; obtain rfl := len0 hk.symm; exact .c4 
  · obtain ⟨x, rfl⟩ := len1 hn.symm; obtain rfl := len0 hk.symm; exact .c5 x
  · obtain ⟨x, y, rfl⟩ := len2 hn.symm; obtain rfl := len0 hk.symm; exact .c6 x y
  · obtain rfl := len0 hn.symm; obtain rfl := len0 hk.symm; exact .c7 
  · obtain ⟨x, y, rfl⟩ := len2 hn.symm; obtain rfl := len0 hk.symm; exact .c8 x y
  · obtain ⟨x, rfl⟩ := len1 hn.symm; obtain rfl := len0 hk.symm; exact .c9 x
  · obtain ⟨x, rfl⟩ := len1 hn.symm; obtain ⟨l, rfl⟩ := len1 hk.symm
    have z : (PyInside.each (PyVbenaf.bound 10).1 [x] && PyInside.lists [(-9223372036854775808, 9223372036854775807, 0, 2000)] [l]) = true := hb
    rw [Bool.and_eq_true] at z
    exact .c10 x l (lists_len z.2)
  · obtain rfl := len0 hn.symm; obtain ⟨l, rfl⟩ := len1 hk.symm
    have z : (PyInside.each (PyVbenaf.bound 11).1 [] && PyInside.lists [(-9223372036854775808, 9223372036854775807, 0, 2000)] [l]) = true := hb
    rw [Bool.and_eq_true] at z
    exact .c11 l (lists_len z.2)
  · obtain rfl := len0 hn.symm; obtain ⟨l, rfl⟩ := len1 hk.symm
    have z : (PyInside.each (PyVbenaf.bound 12).1 [] && PyInside.lists [(-9223372036854775808, 9223372036854775807, 0, 2000)] [l]) = true := hb
    rw [Bool.and_eq_true] at z
    exact .c12 l (lists_len z.2)
  · obtain ⟨x, y, rfl⟩ := len2 hn.symm; obtain rfl := len0 hk.symm; exact .c13 x y
  · obtain ⟨x, rfl⟩ := len1 hn.symm; obtain ⟨l, rfl⟩ := len1 hk.symm
    have z : (PyInside.each (PyVbenaf.bound 14).1 [x] && PyInside.lists [(-9223372036854775808, 9223372036854775807, 0, 2000)] [l]) = true := hb
    rw [Bool.and_eq_true] at z
    exact .c14 x l (lists_len z.2)
  · obtain ⟨x, rfl⟩ := len1 hn.symm; obtain ⟨l, rfl⟩ := len1 hk.symm
    have z : (PyInside.each (PyVbenaf.bound 15).1 [x] && PyInside.lists [(-9223372036854775808, 9223372036854775807, 0, 2000)] [l]) = true := hb
    rw [Bool.and_eq_true] at z
    exact .c15 x l (lists_len z.2)
  · obtain ⟨x, y, rfl⟩ := len2 hn.symm; obtain rfl := len0 hk.symm; exact .c16 x y
  · obtain rfl := len0 hn.symm; obtain rfl := len0 hk.symm; exact .c17 
  · obtain ⟨x, rfl⟩ := len1 hn.symm; obtain rfl := len0 hk.symm; exact .c18 x
  · obtain ⟨x, rfl⟩ := len1 hn.symm; obtain rfl := len0 hk.symm; exact .c19 x
  · obtain rfl := len0 hn.symm; obtain rfl := len0 hk.symm; exact .c20 
  · obtain ⟨x, rfl⟩ := len1 hn.symm; obtain rfl := len0 hk.symm; exact .c21 x
theorem raw_ask {l : List Int} {raw : List (List (List Int))} (h : PyFlat.calls PyVbenaf.shape l.length l = some raw) (hb : PyInside.calls PyVbenaf.bound raw = true) : ∀ c ∈ raw, Ask c := fun c hc => by
  obtain ⟨p, nums, rows, rfl, hs⟩ := calls_shape h c hc
  exact ask_of hs (List.all_eq_true.mp hb _ hc)
/-- what holds of what is checked, what each call does -/
def okCT (p : Int) : Vbenaf.State → List CV → Prop := if p = 0 then okNo else if p = 1 then okF else if p = 2 then okB else if p = 3 then okNo else if p = 4 then okNo else if p = 5 then okS else if p = 6 then okSV else if p = 7 then okNo else if p = 8 then okSV else if p = 9 then okS else if p = 10 then okSR else if p = 11 then okL else if p = 12 then okL else if p = 13 then okSN else if p = 14 then okSR else if p = 15 then okSR else if p = 16 then okHV else if p = 17 then okNo else if p = 18 then okV else if p = 19 then okHo else if p = 20 then okNo else if p = 21 then okS else okNo
def dspT (p : Int) : Vbenaf.State → List CV → Except Int (Vbenaf.State × List Int) := if p = 0 then dClear else if p = 1 then dField else if p = 2 then dLook else if p = 3 then dText else if p = 4 then dTold else if p = 5 then dValue else if p = 6 then dWays else if p = 7 then dRanks else if p = 8 then dGo else if p = 9 then dWorst else if p = 10 then dCarry else if p = 11 then dLower else if p = 12 then dUpper else if p = 13 then dKnown else if p = 14 then dFar else if p = 15 then dMay else if p = 16 then dBest else if p = 17 then dNew else if p = 18 then dChange else if p = 19 then dNotch else if p = 20 then dCard else if p = 21 then dBefore else dClear
theorem num_ok {kd : List Nat} {x : Int} (h : kd = Vbenaf.W "longest" ∨ kd = Vbenaf.W "hole count" ∨ kd = Vbenaf.W "value count" ∨ kd = Vbenaf.W "state" ∨ kd = Vbenaf.W "value" ∨ kd = Vbenaf.W "hole") : okT1 kd (.num x) := .inl ⟨x, rfl, h⟩
theorem row_ok {kd : List Nat} {l : List Int} (hl : l.length ≤ 2000) (h : kd = Vbenaf.W "row" ∨ kd = Vbenaf.W "labels" ∨ kd = Vbenaf.W "codes" ∨ kd = Vbenaf.W "text") : okT1 kd (.row l) := .inr ⟨l, rfl, hl, h⟩
theorem fa_nil {P : List Nat × Thing → Prop} : ∀ t ∈ ([] : List (List Nat × Thing)), P t := fun t h => by cases h
theorem fa_cons {P : List Nat × Thing → Prop} {a : List Nat × Thing} {r : List (List Nat × Thing)} (h : P a) (k : ∀ t ∈ r, P t) : ∀ t ∈ a :: r, P t := fun t ht => by
  rcases List.mem_cons.mp ht with z | z
  · rw [z]; exact h
  · exact k t z
theorem ask_things {c : List (List Int)} (h : Ask c) : (∀ t ∈ (thingsOf gv c).2, okT1 t.1 t.2) ∧ (thingsOf gv c).2.length ≤ 100000 ∧ ∃ n k, PyVbenaf.shape (thingsOf gv c).1 = some (n, k) := by
  cases h with
  | c0  => exact ⟨show ∀ t ∈ ([] : List (List Nat × Thing)), okT1 t.1 t.2 from (fa_nil (P := fun t => okT1 t.1 t.2)), Nat.le_of_ble_eq_true rfl, 0, 0, rfl⟩
  | c1 l h => exact ⟨show ∀ t ∈ ([(kT, Thing.row l)] : List (List Nat × Thing)), okT1 t.1 t.2 from (fa_cons (P := fun t => okT1 t.1 t.2) (row_ok h (.inr (.inr (.inr rfl)))) (fa_nil (P := fun t => okT1 t.1 t.2))), Nat.le_of_ble_eq_true rfl, 0, 1, rfl⟩
  | c2 l h => exact ⟨show ∀ t ∈ ([(kC, Thing.row l)] : List (List Nat × Thing)), okT1 t.1 t.2 from (fa_cons (P := fun t => okT1 t.1 t.2) (row_ok h (.inr (.inr (.inl rfl)))) (fa_nil (P := fun t => okT1 t.1 t.2))), Nat.le_of_ble_eq_true rfl, 0, 1, rfl⟩
  | c3  => exact ⟨show ∀ t ∈ ([] : List (List Nat × Thing)), okT1 t.1 t.2 from (fa_nil (P := fun t => okT1 t.1 t.2)), Nat.le_of_ble_eq_true rfl, 0, 0, rfl⟩
  | c4  => exact ⟨show ∀ t ∈ ([] : List (List Nat × Thing)), okT1 t.1 t.2 from (fa_nil (P := fun t => okT1 t.1 t.2)), Nat.le_of_ble_eq_true rfl, 0, 0, rfl⟩
  | c5 x => exact ⟨show ∀ t ∈ ([(kS, Thing.num x)] : List (List Nat × Thing)), okT1 t.1 t.2 from (fa_cons (P := fun t => okT1 t.1 t.2) (num_ok (.inr (.inr (.inr (.inl rfl))))) (fa_nil (P := fun t => okT1 t.1 t.2))), Nat.le_of_ble_eq_true rfl, 1, 0, rfl⟩
  | c6 x y => exact ⟨show ∀ t ∈ ([(kS, Thing.num x), (kV, Thing.num y)] : List (List Nat × Thing)), okT1 t.1 t.2 from (fa_cons (P := fun t => okT1 t.1 t.2) (num_ok (.inr (.inr (.inr (.inl rfl))))) (fa_cons (P := fun t => okT1 t.1 t.2) (num_ok (.inr (.inr (.inr (.inr (.inl rfl)))))) (fa_nil (P := fun t => okT1 t.1 t.2)))), Nat.le_of_ble_eq_true rfl, 2, 0, rfl⟩
  | c7  => exact ⟨show ∀ t ∈ ([] : List (List Nat × Thing)), okT1 t.1 t.2 from (fa_nil (P := fun t => okT1 t.1 t.2)), Nat.le_of_ble_eq_true rfl, 0, 0, rfl⟩
  | c8 x y => exact ⟨show ∀ t ∈ ([(kS, Thing.num x), (kV, Thing.num y)] : List (List Nat × Thing)), okT1 t.1 t.2 from (fa_cons (P := fun t => okT1 t.1 t.2) (num_ok (.inr (.inr (.inr (.inl rfl))))) (fa_cons (P := fun t => okT1 t.1 t.2) (num_ok (.inr (.inr (.inr (.inr (.inl rfl)))))) (fa_nil (P := fun t => okT1 t.1 t.2)))), Nat.le_of_ble_eq_true rfl, 2, 0, rfl⟩
  | c9 x => exact ⟨show ∀ t ∈ ([(kS, Thing.num x)] : List (List Nat × Thing)), okT1 t.1 t.2 from (fa_cons (P := fun t => okT1 t.1 t.2) (num_ok (.inr (.inr (.inr (.inl rfl))))) (fa_nil (P := fun t => okT1 t.1 t.2))), Nat.le_of_ble_eq_true rfl, 1, 0, rfl⟩
  | c10 x l h => exact ⟨show ∀ t ∈ ([(kS, Thing.num x), (kR, Thing.row l)] : List (List Nat × Thing)), okT1 t.1 t.2 from (fa_cons (P := fun t => okT1 t.1 t.2) (num_ok (.inr (.inr (.inr (.inl rfl))))) (fa_cons (P := fun t => okT1 t.1 t.2) (row_ok h (.inl rfl)) (fa_nil (P := fun t => okT1 t.1 t.2)))), Nat.le_of_ble_eq_true rfl, 1, 1, rfl⟩
  | c11 l h => exact ⟨show ∀ t ∈ ([(kL, Thing.row l)] : List (List Nat × Thing)), okT1 t.1 t.2 from (fa_cons (P := fun t => okT1 t.1 t.2) (row_ok h (.inr (.inl rfl))) (fa_nil (P := fun t => okT1 t.1 t.2))), Nat.le_of_ble_eq_true rfl, 0, 1, rfl⟩
  | c12 l h => exact ⟨show ∀ t ∈ ([(kL, Thing.row l)] : List (List Nat × Thing)), okT1 t.1 t.2 from (fa_cons (P := fun t => okT1 t.1 t.2) (row_ok h (.inr (.inl rfl))) (fa_nil (P := fun t => okT1 t.1 t.2))), Nat.le_of_ble_eq_true rfl, 0, 1, rfl⟩
  | c13 x y => exact ⟨show ∀ t ∈ ([(kS, Thing.num x), (kN, Thing.num y)] : List (List Nat × Thing)), okT1 t.1 t.2 from (fa_cons (P := fun t => okT1 t.1 t.2) (num_ok (.inr (.inr (.inr (.inl rfl))))) (fa_cons (P := fun t => okT1 t.1 t.2) (num_ok (.inl rfl)) (fa_nil (P := fun t => okT1 t.1 t.2)))), Nat.le_of_ble_eq_true rfl, 2, 0, rfl⟩
  | c14 x l h => exact ⟨show ∀ t ∈ ([(kS, Thing.num x), (kR, Thing.row l)] : List (List Nat × Thing)), okT1 t.1 t.2 from (fa_cons (P := fun t => okT1 t.1 t.2) (num_ok (.inr (.inr (.inr (.inl rfl))))) (fa_cons (P := fun t => okT1 t.1 t.2) (row_ok h (.inl rfl)) (fa_nil (P := fun t => okT1 t.1 t.2)))), Nat.le_of_ble_eq_true rfl, 1, 1, rfl⟩
  | c15 x l h => exact ⟨show ∀ t ∈ ([(kS, Thing.num x), (kR, Thing.row l)] : List (List Nat × Thing)), okT1 t.1 t.2 from (fa_cons (P := fun t => okT1 t.1 t.2) (num_ok (.inr (.inr (.inr (.inl rfl))))) (fa_cons (P := fun t => okT1 t.1 t.2) (row_ok h (.inl rfl)) (fa_nil (P := fun t => okT1 t.1 t.2)))), Nat.le_of_ble_eq_true rfl, 1, 1, rfl⟩
  | c16 x y => exact ⟨show ∀ t ∈ ([(kHC, Thing.num x), (kVC, Thing.num y)] : List (List Nat × Thing)), okT1 t.1 t.2 from (fa_cons (P := fun t => okT1 t.1 t.2) (num_ok (.inr (.inl rfl))) (fa_cons (P := fun t => okT1 t.1 t.2) (num_ok (.inr (.inr (.inl rfl)))) (fa_nil (P := fun t => okT1 t.1 t.2)))), Nat.le_of_ble_eq_true rfl, 2, 0, rfl⟩
  | c17  => exact ⟨show ∀ t ∈ ([] : List (List Nat × Thing)), okT1 t.1 t.2 from (fa_nil (P := fun t => okT1 t.1 t.2)), Nat.le_of_ble_eq_true rfl, 0, 0, rfl⟩
  | c18 x => exact ⟨show ∀ t ∈ ([(kV, Thing.num x)] : List (List Nat × Thing)), okT1 t.1 t.2 from (fa_cons (P := fun t => okT1 t.1 t.2) (num_ok (.inr (.inr (.inr (.inr (.inl rfl)))))) (fa_nil (P := fun t => okT1 t.1 t.2))), Nat.le_of_ble_eq_true rfl, 1, 0, rfl⟩
  | c19 x => exact ⟨show ∀ t ∈ ([(kH, Thing.num x)] : List (List Nat × Thing)), okT1 t.1 t.2 from (fa_cons (P := fun t => okT1 t.1 t.2) (num_ok (.inr (.inr (.inr (.inr (.inr rfl)))))) (fa_nil (P := fun t => okT1 t.1 t.2))), Nat.le_of_ble_eq_true rfl, 1, 0, rfl⟩
  | c20  => exact ⟨show ∀ t ∈ ([] : List (List Nat × Thing)), okT1 t.1 t.2 from (fa_nil (P := fun t => okT1 t.1 t.2)), Nat.le_of_ble_eq_true rfl, 0, 0, rfl⟩
  | c21 x => exact ⟨show ∀ t ∈ ([(kS, Thing.num x)] : List (List Nat × Thing)), okT1 t.1 t.2 from (fa_cons (P := fun t => okT1 t.1 t.2) (num_ok (.inr (.inr (.inr (.inl rfl))))) (fa_nil (P := fun t => okT1 t.1 t.2))), Nat.le_of_ble_eq_true rfl, 1, 0, rfl⟩
theorem ask_ok (st : Vbenaf.State) (c : List (List Int)) (cs : List CV) (h : Ask c) (hc : chkAll chk1 st.field (thingsOf gv c).2 = .ok cs) : okCT (thingsOf gv c).1 st cs := by
  cases h with
  | c0  => exact (ok_no hc : okNo st cs)
  | c1 l h => exact (ok_t hc : okF st cs)
  | c2 l h => exact (ok_c h hc : okB st cs)
  | c3  => exact (ok_no hc : okNo st cs)
  | c4  => exact (ok_no hc : okNo st cs)
  | c5 x => exact (ok_s hc : okS st cs)
  | c6 x y => exact (ok_sv hc : okSV st cs)
  | c7  => exact (ok_no hc : okNo st cs)
  | c8 x y => exact (ok_sv hc : okSV st cs)
  | c9 x => exact (ok_s hc : okS st cs)
  | c10 x l h => exact (ok_sr hc : okSR st cs)
  | c11 l h => exact (ok_l hc : okL st cs)
  | c12 l h => exact (ok_l hc : okL st cs)
  | c13 x y => exact (ok_sn hc : okSN st cs)
  | c14 x l h => exact (ok_sr hc : okSR st cs)
  | c15 x l h => exact (ok_sr hc : okSR st cs)
  | c16 x y => exact (ok_hv hc : okHV st cs)
  | c17  => exact (ok_no hc : okNo st cs)
  | c18 x => exact (ok_v hc : okV st cs)
  | c19 x => exact (ok_h hc : okHo st cs)
  | c20  => exact (ok_no hc : okNo st cs)
  | c21 x => exact (ok_s hc : okS st cs)
theorem ask_step (st : Vbenaf.State) (c : List (List Int)) (h : Ask c) : Vbenaf.step st c = match chkAll chk1 st.field (thingsOf gv c).2 with
    | .error n => (st, [n])
    | .ok cs => match dspT (thingsOf gv c).1 st cs with
      | .error n => (st, [n])
      | .ok r => r := by
  cases h with
  | c0  => exact step_clear st 
  | c1 l h => exact step_field st l h
  | c2 l h => exact step_look st l h
  | c3  => exact step_text st 
  | c4  => exact step_told st 
  | c5 x => exact step_value st x
  | c6 x y => exact step_ways st x y
  | c7  => exact step_ranks st 
  | c8 x y => exact step_go st x y
  | c9 x => exact step_worst st x
  | c10 x l h => exact step_carry st x l
  | c11 l h => exact step_lower st l
  | c12 l h => exact step_upper st l
  | c13 x y => exact step_known st x y
  | c14 x l h => exact step_far st x l
  | c15 x l h => exact step_may st x l
  | c16 x y => exact step_best st x y
  | c17  => exact step_new st 
  | c18 x => exact step_change st x
  | c19 x => exact step_notch st x
  | c20  => exact step_card st 
  | c21 x => exact step_before st x
end N
set_option Elab.async false
set_option linter.all false
set_option maxRecDepth 100000
set_option maxHeartbeats 4000000
namespace N
open PySem PySem.Spec PyProof.Rows L2 Evl
open NM (Thing want thingsOf Fits vI rI FOk FBk)
/-- a def of the text, as the top has left it -/
def DefAt (K : PySem.W.Frag) (x qual : Str) (st : Stmt) (f : Addr) : Prop := ∃ fd, Fun K x qual st f fd
theorem defAt {K : PySem.W.Frag} {x qual : Str} {st : Stmt} {f : Addr} {oc : Value} {od an : Option Addr} {osl : Array (Option Value)} {kV doc pm cdv ct : Value} (l : K.lookup f = some ⟨oc, od, .func (PySem.W.fnOf x qual (defArgs st) (defBody st) (defScope st) .none kV doc pm an cdv ct), osl⟩)
    (c : PySem.W.codeIn K cdv qual = true) (k : PySem.W.keepIn K (.ref f) = true) : DefAt K x qual st f := ⟨_, fun_mk l c k⟩
theorem exm_own {K : PySem.W.Frag} {C S : Addr} (h1 : PySem.W.subIn K (.ref S) (.type "BaseException") = some true) (h2 : PySem.W.isClsIn K S = true) (h3 : PySem.W.typeIn K (.ref S) = some (.type "type")) (h4 : PySem.W.subIn K (.ref C) (.ref S) = some true) :
    PySem.W.exmOne K (.ref C) (.ref S) = some true := by
  have e1 : (PySem.W.subIn K (.ref S) (.type "BaseException") == some true) = true := by rw [h1] <;> rfl
  have e2 : ((PySem.W.clsIn K S).isSome && PySem.W.typeIn K (.ref S) == some (.type "type")) = true := by
    have h2' : (PySem.W.clsIn K S).isSome = true := h2
    rw [h2', h3] <;> rfl
  show (if (PySem.W.subIn K (.ref S) (.type "BaseException") == some true) = true then (if ((PySem.W.clsIn K S).isSome && PySem.W.typeIn K (.ref S) == some (.type "type")) = true then PySem.W.subIn K (.ref C) (.ref S) else none) else none) = some true
  rw [if_pos e1, if_pos e2]
  exact h4
theorem tup_sq {K : PySem.W.Frag} {a : Addr} {o : Option Addr} {k : Array Value} {n : Nat} {s : Array (Option Value)} {xs : List V} (l : K.lookup a = some ⟨.type "tuple", o, .seq k n, s⟩) (z : k.size ≤ 100) (v : Vals xs k.toList) (H : Hp) : SqT K H a xs :=
  .inr ⟨_, k, n, l, rfl, rfl, Nat.le_trans z (by rw [sizeLine_eq]; decide), v⟩
theorem all_mk {P : Program} {w : World} {K : PySem.W.Frag} {h : Heap} {mg : Str → Option Value} {fa : Addr} (X : K.In h) (G : h.Ns mainGlobals mg) (hfa : mg "answers" = some (.ref fa))
    {f_first_field f_more_notched f_notch_count f_sign_of f_words_of f_take_number f_take_value f_may_be_name f_read_holes f_read_names f_read_let f_read_at : Addr}
    {f_read_field f_state_line f_one_text f_parted f_checked_range f_checked_number f_checked_bytes f_checked_row f_checked_labels f_checked f_is_borne f_is_never_passed : Addr}
    {f_states_not_borne f_states_passed f_behind_any f_may_be f_farthest f_lost_row f_table_count f_best_field f_rank_number f_counted f_value_number f_judged : Addr}
    {f_call_clear f_call_field f_call_look f_call_text f_call_told f_call_value f_call_ways f_call_ranks f_call_go f_call_worst f_call_carry f_call_lower : Addr}
    {f_call_upper f_call_known f_call_far f_call_may f_call_best f_call_new f_call_change f_call_notch f_call_card f_call_before f_answer f_answers : Addr}
    {CF f_Field_init f_Field_settle f_Field_state_count f_Field_valued_count f_Field_asked f_Field_asked_from f_Field_ways f_Field_before f_Field_best_ways f_Field_left f_Field_least_left : Addr}
    {f_Field_worst_value f_Field_worst_row f_Field_behind f_Field_carried CT f_Trial_init f_Trial_advance CW f_Words_init f_Words_ended f_Words_word f_Words_take : Addr}
    {CC f_Card_init f_Card_change f_Card_notch CD f_Desk_init f_Desk_lay f_Desk_renew CR f_Refusal_init CB f_NotBytes_init : Addr}
    {CO f_OutOfRange_init CL f_BadList_init CN f_NotThere_init CNA f_NotAsked_init CHN f_HoleNotched_init CWW f_WithoutWay_init : Addr}
    {CM f_TooManyTables_init CFa f_Fault_init aG t_g0 t_g1 t_g2 t_g3 t_g4 t_g5 t_g6 : Addr}
    {t_g7 t_g8 t_g9 t_g10 t_g11 t_g12 t_g13 t_g14 t_g15 t_g16 t_g17 t_g18 : Addr}
    {t_g19 t_g20 t_g21 aD aL aR t_r0 t_r1 t_r2 : Addr}
    {t_NO_VALUE : Tok}
    {t_NO_WAY : Tok}
    {t_NO_END : Tok}
    {t_LONGEST_NAME : Tok}
    {t_MOST_HOLES : Tok}
    {t_MOST_VALUES : Tok}
    {t_MOST_LETS : Tok}
    {t_GREATEST_STATE : Tok}
    {t_GREATEST_VALUE : Tok}
    {t_GREATEST_HOLE : Tok}
    {t_GREATEST_BYTE : Tok}
    {t_LONGEST_ROW : Tok}
    {t_GREATEST_LABEL : Tok}
    {t_MOST_TABLES : Tok}
    {t_LINE_END : Tok}
    {t_LETTERS : Tok}
    {eG : Array DictEntry}
    {eGn : Nat}
    {o_g0 : Option Addr}
    {k_g0 : Array Value}
    {z_g0 : Nat}
    {s_g0 : Array (Option Value)}
    {o_g1 : Option Addr}
    {k_g1 : Array Value}
    {z_g1 : Nat}
    {s_g1 : Array (Option Value)}
    {o_g2 : Option Addr}
    {k_g2 : Array Value}
    {z_g2 : Nat}
    {s_g2 : Array (Option Value)}
    {o_g3 : Option Addr}
    {k_g3 : Array Value}
    {z_g3 : Nat}
    {s_g3 : Array (Option Value)}
    {o_g4 : Option Addr}
    {k_g4 : Array Value}
    {z_g4 : Nat}
    {s_g4 : Array (Option Value)}
    {o_g5 : Option Addr}
    {k_g5 : Array Value}
    {z_g5 : Nat}
    {s_g5 : Array (Option Value)}
    {o_g6 : Option Addr}
    {k_g6 : Array Value}
    {z_g6 : Nat}
    {s_g6 : Array (Option Value)}
    {o_g7 : Option Addr}
    {k_g7 : Array Value}
    {z_g7 : Nat}
    {s_g7 : Array (Option Value)}
    {o_g8 : Option Addr}
    {k_g8 : Array Value}
    {z_g8 : Nat}
    {s_g8 : Array (Option Value)}
    {o_g9 : Option Addr}
    {k_g9 : Array Value}
    {z_g9 : Nat}
    {s_g9 : Array (Option Value)}
    {o_g10 : Option Addr}
    {k_g10 : Array Value}
    {z_g10 : Nat}
    {s_g10 : Array (Option Value)}
    {o_g11 : Option Addr}
    {k_g11 : Array Value}
    {z_g11 : Nat}
    {s_g11 : Array (Option Value)}
    {o_g12 : Option Addr}
    {k_g12 : Array Value}
    {z_g12 : Nat}
    {s_g12 : Array (Option Value)}
    {o_g13 : Option Addr}
    {k_g13 : Array Value}
    {z_g13 : Nat}
    {s_g13 : Array (Option Value)}
    {o_g14 : Option Addr}
    {k_g14 : Array Value}
    {z_g14 : Nat}
    {s_g14 : Array (Option Value)}
    {o_g15 : Option Addr}
    {k_g15 : Array Value}
    {z_g15 : Nat}
    {s_g15 : Array (Option Value)}
    {o_g16 : Option Addr}
    {k_g16 : Array Value}
    {z_g16 : Nat}
    {s_g16 : Array (Option Value)}
    {o_g17 : Option Addr}
    {k_g17 : Array Value}
    {z_g17 : Nat}
    {s_g17 : Array (Option Value)}
    {o_g18 : Option Addr}
    {k_g18 : Array Value}
    {z_g18 : Nat}
    {s_g18 : Array (Option Value)}
    {o_g19 : Option Addr}
    {k_g19 : Array Value}
    {z_g19 : Nat}
    {s_g19 : Array (Option Value)}
    {o_g20 : Option Addr}
    {k_g20 : Array Value}
    {z_g20 : Nat}
    {s_g20 : Array (Option Value)}
    {o_g21 : Option Addr}
    {k_g21 : Array Value}
    {z_g21 : Nat}
    {s_g21 : Array (Option Value)}
    {eD : Array DictEntry}
    {eDn : Nat}
    {o_LISTS : Option Addr}
    {k_LISTS : Array Value}
    {z_LISTS : Nat}
    {s_LISTS : Array (Option Value)}
    {eR : Array DictEntry}
    {eRn : Nat}
    {o_r0 : Option Addr}
    {k_r0 : Array Value}
    {z_r0 : Nat}
    {s_r0 : Array (Option Value)}
    {o_r1 : Option Addr}
    {k_r1 : Array Value}
    {z_r1 : Nat}
    {s_r1 : Array (Option Value)}
    {o_r2 : Option Addr}
    {k_r2 : Array Value}
    {z_r2 : Nat}
    {s_r2 : Array (Option Value)}
    (b_len : PySem.W.nsIn K mainGlobals "len" = some none)
    (b_range : PySem.W.nsIn K mainGlobals "range" = some none)
    (b_list : PySem.W.nsIn K mainGlobals "list" = some none)
    (b_str : PySem.W.nsIn K mainGlobals "str" = some none)
    (b_int : PySem.W.nsIn K mainGlobals "int" = some none)
    (b_ord : PySem.W.nsIn K mainGlobals "ord" = some none)
    (b_min : PySem.W.nsIn K mainGlobals "min" = some none)
    (b_any : PySem.W.nsIn K mainGlobals "any" = some none)
    (b_all : PySem.W.nsIn K mainGlobals "all" = some none)
    (b_sorted : PySem.W.nsIn K mainGlobals "sorted" = some none)
    (b_set : PySem.W.nsIn K mainGlobals "set" = some none)
    (c_NO_VALUE : PySem.W.nsIn K mainGlobals "NO_VALUE" = some (some (.int (-1) t_NO_VALUE)))
    (c_NO_WAY : PySem.W.nsIn K mainGlobals "NO_WAY" = some (some (.int (-1) t_NO_WAY)))
    (c_NO_END : PySem.W.nsIn K mainGlobals "NO_END" = some (some (.int 1000 t_NO_END)))
    (c_LONGEST_NAME : PySem.W.nsIn K mainGlobals "LONGEST_NAME" = some (some (.int 12 t_LONGEST_NAME)))
    (c_MOST_HOLES : PySem.W.nsIn K mainGlobals "MOST_HOLES" = some (some (.int 6 t_MOST_HOLES)))
    (c_MOST_VALUES : PySem.W.nsIn K mainGlobals "MOST_VALUES" = some (some (.int 8 t_MOST_VALUES)))
    (c_MOST_LETS : PySem.W.nsIn K mainGlobals "MOST_LETS" = some (some (.int 30 t_MOST_LETS)))
    (c_GREATEST_STATE : PySem.W.nsIn K mainGlobals "GREATEST_STATE" = some (some (.int 63 t_GREATEST_STATE)))
    (c_GREATEST_VALUE : PySem.W.nsIn K mainGlobals "GREATEST_VALUE" = some (some (.int 7 t_GREATEST_VALUE)))
    (c_GREATEST_HOLE : PySem.W.nsIn K mainGlobals "GREATEST_HOLE" = some (some (.int 5 t_GREATEST_HOLE)))
    (c_GREATEST_BYTE : PySem.W.nsIn K mainGlobals "GREATEST_BYTE" = some (some (.int 255 t_GREATEST_BYTE)))
    (c_LONGEST_ROW : PySem.W.nsIn K mainGlobals "LONGEST_ROW" = some (some (.int 60 t_LONGEST_ROW)))
    (c_GREATEST_LABEL : PySem.W.nsIn K mainGlobals "GREATEST_LABEL" = some (some (.int 1000 t_GREATEST_LABEL)))
    (c_MOST_TABLES : PySem.W.nsIn K mainGlobals "MOST_TABLES" = some (some (.int 20000 t_MOST_TABLES)))
    (c_LINE_END : PySem.W.nsIn K mainGlobals "LINE_END" = some (some (.str "\n" t_LINE_END)))
    (c_LETTERS : PySem.W.nsIn K mainGlobals "LETTERS" = some (some (.str "abcdefghijklmnopqrstuvwxyz" t_LETTERS)))
    (n_first_field : PySem.W.nsIn K mainGlobals "first_field" = some (some (.ref f_first_field)))
    (D_first_field : DefAt K "first_field" "first_field" sfirst_field f_first_field)
    (n_more_notched : PySem.W.nsIn K mainGlobals "more_notched" = some (some (.ref f_more_notched)))
    (D_more_notched : DefAt K "more_notched" "more_notched" smore_notched f_more_notched)
    (n_notch_count : PySem.W.nsIn K mainGlobals "notch_count" = some (some (.ref f_notch_count)))
    (D_notch_count : DefAt K "notch_count" "notch_count" snotch_count f_notch_count)
    (n_sign_of : PySem.W.nsIn K mainGlobals "sign_of" = some (some (.ref f_sign_of)))
    (D_sign_of : DefAt K "sign_of" "sign_of" ssign_of f_sign_of)
    (n_words_of : PySem.W.nsIn K mainGlobals "words_of" = some (some (.ref f_words_of)))
    (D_words_of : DefAt K "words_of" "words_of" swords_of f_words_of)
    (n_take_number : PySem.W.nsIn K mainGlobals "take_number" = some (some (.ref f_take_number)))
    (D_take_number : DefAt K "take_number" "take_number" stake_number f_take_number)
    (n_take_value : PySem.W.nsIn K mainGlobals "take_value" = some (some (.ref f_take_value)))
    (D_take_value : DefAt K "take_value" "take_value" stake_value f_take_value)
    (n_may_be_name : PySem.W.nsIn K mainGlobals "may_be_name" = some (some (.ref f_may_be_name)))
    (D_may_be_name : DefAt K "may_be_name" "may_be_name" smay_be_name f_may_be_name)
    (n_read_holes : PySem.W.nsIn K mainGlobals "read_holes" = some (some (.ref f_read_holes)))
    (D_read_holes : DefAt K "read_holes" "read_holes" sread_holes f_read_holes)
    (n_read_names : PySem.W.nsIn K mainGlobals "read_names" = some (some (.ref f_read_names)))
    (D_read_names : DefAt K "read_names" "read_names" sread_names f_read_names)
    (n_read_let : PySem.W.nsIn K mainGlobals "read_let" = some (some (.ref f_read_let)))
    (D_read_let : DefAt K "read_let" "read_let" sread_let f_read_let)
    (n_read_at : PySem.W.nsIn K mainGlobals "read_at" = some (some (.ref f_read_at)))
    (D_read_at : DefAt K "read_at" "read_at" sread_at f_read_at)
    (n_read_field : PySem.W.nsIn K mainGlobals "read_field" = some (some (.ref f_read_field)))
    (D_read_field : DefAt K "read_field" "read_field" sread_field f_read_field)
    (n_state_line : PySem.W.nsIn K mainGlobals "state_line" = some (some (.ref f_state_line)))
    (D_state_line : DefAt K "state_line" "state_line" sstate_line f_state_line)
    (n_one_text : PySem.W.nsIn K mainGlobals "one_text" = some (some (.ref f_one_text)))
    (D_one_text : DefAt K "one_text" "one_text" sone_text f_one_text)
    (n_parted : PySem.W.nsIn K mainGlobals "parted" = some (some (.ref f_parted)))
    (D_parted : DefAt K "parted" "parted" sparted f_parted)
    (n_checked_range : PySem.W.nsIn K mainGlobals "checked_range" = some (some (.ref f_checked_range)))
    (D_checked_range : DefAt K "checked_range" "checked_range" schecked_range f_checked_range)
    (n_checked_number : PySem.W.nsIn K mainGlobals "checked_number" = some (some (.ref f_checked_number)))
    (D_checked_number : DefAt K "checked_number" "checked_number" schecked_number f_checked_number)
    (n_checked_bytes : PySem.W.nsIn K mainGlobals "checked_bytes" = some (some (.ref f_checked_bytes)))
    (D_checked_bytes : DefAt K "checked_bytes" "checked_bytes" schecked_bytes f_checked_bytes)
    (n_checked_row : PySem.W.nsIn K mainGlobals "checked_row" = some (some (.ref f_checked_row)))
    (D_checked_row : DefAt K "checked_row" "checked_row" schecked_row f_checked_row)
    (n_checked_labels : PySem.W.nsIn K mainGlobals "checked_labels" = some (some (.ref f_checked_labels)))
    (D_checked_labels : DefAt K "checked_labels" "checked_labels" schecked_labels f_checked_labels)
    (n_checked : PySem.W.nsIn K mainGlobals "checked" = some (some (.ref f_checked)))
    (D_checked : DefAt K "checked" "checked" schecked f_checked)
    (n_is_borne : PySem.W.nsIn K mainGlobals "is_borne" = some (some (.ref f_is_borne)))
    (D_is_borne : DefAt K "is_borne" "is_borne" sis_borne f_is_borne)
    (n_is_never_passed : PySem.W.nsIn K mainGlobals "is_never_passed" = some (some (.ref f_is_never_passed)))
    (D_is_never_passed : DefAt K "is_never_passed" "is_never_passed" sis_never_passed f_is_never_passed)
    (n_states_not_borne : PySem.W.nsIn K mainGlobals "states_not_borne" = some (some (.ref f_states_not_borne)))
    (D_states_not_borne : DefAt K "states_not_borne" "states_not_borne" sstates_not_borne f_states_not_borne)
    (n_states_passed : PySem.W.nsIn K mainGlobals "states_passed" = some (some (.ref f_states_passed)))
    (D_states_passed : DefAt K "states_passed" "states_passed" sstates_passed f_states_passed)
    (n_behind_any : PySem.W.nsIn K mainGlobals "behind_any" = some (some (.ref f_behind_any)))
    (D_behind_any : DefAt K "behind_any" "behind_any" sbehind_any f_behind_any)
    (n_may_be : PySem.W.nsIn K mainGlobals "may_be" = some (some (.ref f_may_be)))
    (D_may_be : DefAt K "may_be" "may_be" smay_be f_may_be)
    (n_farthest : PySem.W.nsIn K mainGlobals "farthest" = some (some (.ref f_farthest)))
    (D_farthest : DefAt K "farthest" "farthest" sfarthest f_farthest)
    (n_lost_row : PySem.W.nsIn K mainGlobals "lost_row" = some (some (.ref f_lost_row)))
    (D_lost_row : DefAt K "lost_row" "lost_row" slost_row f_lost_row)
    (n_table_count : PySem.W.nsIn K mainGlobals "table_count" = some (some (.ref f_table_count)))
    (D_table_count : DefAt K "table_count" "table_count" stable_count f_table_count)
    (n_best_field : PySem.W.nsIn K mainGlobals "best_field" = some (some (.ref f_best_field)))
    (D_best_field : DefAt K "best_field" "best_field" sbest_field f_best_field)
    (n_rank_number : PySem.W.nsIn K mainGlobals "rank_number" = some (some (.ref f_rank_number)))
    (D_rank_number : DefAt K "rank_number" "rank_number" srank_number f_rank_number)
    (n_counted : PySem.W.nsIn K mainGlobals "counted" = some (some (.ref f_counted)))
    (D_counted : DefAt K "counted" "counted" scounted f_counted)
    (n_value_number : PySem.W.nsIn K mainGlobals "value_number" = some (some (.ref f_value_number)))
    (D_value_number : DefAt K "value_number" "value_number" svalue_number f_value_number)
    (n_judged : PySem.W.nsIn K mainGlobals "judged" = some (some (.ref f_judged)))
    (D_judged : DefAt K "judged" "judged" sjudged f_judged)
    (n_call_clear : PySem.W.nsIn K mainGlobals "call_clear" = some (some (.ref f_call_clear)))
    (D_call_clear : DefAt K "call_clear" "call_clear" scall_clear f_call_clear)
    (n_call_field : PySem.W.nsIn K mainGlobals "call_field" = some (some (.ref f_call_field)))
    (D_call_field : DefAt K "call_field" "call_field" scall_field f_call_field)
    (n_call_look : PySem.W.nsIn K mainGlobals "call_look" = some (some (.ref f_call_look)))
    (D_call_look : DefAt K "call_look" "call_look" scall_look f_call_look)
    (n_call_text : PySem.W.nsIn K mainGlobals "call_text" = some (some (.ref f_call_text)))
    (D_call_text : DefAt K "call_text" "call_text" scall_text f_call_text)
    (n_call_told : PySem.W.nsIn K mainGlobals "call_told" = some (some (.ref f_call_told)))
    (D_call_told : DefAt K "call_told" "call_told" scall_told f_call_told)
    (n_call_value : PySem.W.nsIn K mainGlobals "call_value" = some (some (.ref f_call_value)))
    (D_call_value : DefAt K "call_value" "call_value" scall_value f_call_value)
    (n_call_ways : PySem.W.nsIn K mainGlobals "call_ways" = some (some (.ref f_call_ways)))
    (D_call_ways : DefAt K "call_ways" "call_ways" scall_ways f_call_ways)
    (n_call_ranks : PySem.W.nsIn K mainGlobals "call_ranks" = some (some (.ref f_call_ranks)))
    (D_call_ranks : DefAt K "call_ranks" "call_ranks" scall_ranks f_call_ranks)
    (n_call_go : PySem.W.nsIn K mainGlobals "call_go" = some (some (.ref f_call_go)))
    (D_call_go : DefAt K "call_go" "call_go" scall_go f_call_go)
    (n_call_worst : PySem.W.nsIn K mainGlobals "call_worst" = some (some (.ref f_call_worst)))
    (D_call_worst : DefAt K "call_worst" "call_worst" scall_worst f_call_worst)
    (n_call_carry : PySem.W.nsIn K mainGlobals "call_carry" = some (some (.ref f_call_carry)))
    (D_call_carry : DefAt K "call_carry" "call_carry" scall_carry f_call_carry)
    (n_call_lower : PySem.W.nsIn K mainGlobals "call_lower" = some (some (.ref f_call_lower)))
    (D_call_lower : DefAt K "call_lower" "call_lower" scall_lower f_call_lower)
    (n_call_upper : PySem.W.nsIn K mainGlobals "call_upper" = some (some (.ref f_call_upper)))
    (D_call_upper : DefAt K "call_upper" "call_upper" scall_upper f_call_upper)
    (n_call_known : PySem.W.nsIn K mainGlobals "call_known" = some (some (.ref f_call_known)))
    (D_call_known : DefAt K "call_known" "call_known" scall_known f_call_known)
    (n_call_far : PySem.W.nsIn K mainGlobals "call_far" = some (some (.ref f_call_far)))
    (D_call_far : DefAt K "call_far" "call_far" scall_far f_call_far)
    (n_call_may : PySem.W.nsIn K mainGlobals "call_may" = some (some (.ref f_call_may)))
    (D_call_may : DefAt K "call_may" "call_may" scall_may f_call_may)
    (n_call_best : PySem.W.nsIn K mainGlobals "call_best" = some (some (.ref f_call_best)))
    (D_call_best : DefAt K "call_best" "call_best" scall_best f_call_best)
    (n_call_new : PySem.W.nsIn K mainGlobals "call_new" = some (some (.ref f_call_new)))
    (D_call_new : DefAt K "call_new" "call_new" scall_new f_call_new)
    (n_call_change : PySem.W.nsIn K mainGlobals "call_change" = some (some (.ref f_call_change)))
    (D_call_change : DefAt K "call_change" "call_change" scall_change f_call_change)
    (n_call_notch : PySem.W.nsIn K mainGlobals "call_notch" = some (some (.ref f_call_notch)))
    (D_call_notch : DefAt K "call_notch" "call_notch" scall_notch f_call_notch)
    (n_call_card : PySem.W.nsIn K mainGlobals "call_card" = some (some (.ref f_call_card)))
    (D_call_card : DefAt K "call_card" "call_card" scall_card f_call_card)
    (n_call_before : PySem.W.nsIn K mainGlobals "call_before" = some (some (.ref f_call_before)))
    (D_call_before : DefAt K "call_before" "call_before" scall_before f_call_before)
    (n_answer : PySem.W.nsIn K mainGlobals "answer" = some (some (.ref f_answer)))
    (D_answer : DefAt K "answer" "answer" sanswer f_answer)
    (n_answers : PySem.W.nsIn K mainGlobals "answers" = some (some (.ref f_answers)))
    (D_answers : DefAt K "answers" "answers" sanswers f_answers)
    (n_Field : PySem.W.nsIn K mainGlobals "Field" = some (some (.ref CF)))
    (cls_Field : Cls K CF)
    (mk_Field : PySem.W.makesIn K CF = true)
    (kc_Field : PySem.W.keepIn K (.ref CF) = true)
    (i_Field : PySem.W.findIn K (.ref CF) "__init__" = some (some (.ref f_Field_init)))
    (fn_Field_init : PySem.W.isFn K (.ref f_Field_init) = true)
    (D_Field_init : DefAt K "__init__" "Field.__init__" sField_init f_Field_init)
    (na_Field_holes : PySem.W.findIn K (.ref CF) "holes" = some none)
    (na_Field_names : PySem.W.findIn K (.ref CF) "names" = some none)
    (na_Field_lets : PySem.W.findIn K (.ref CF) "lets" = some none)
    (na_Field_table : PySem.W.findIn K (.ref CF) "table" = some none)
    (na_Field_above : PySem.W.findIn K (.ref CF) "above" = some none)
    (na_Field_ranks : PySem.W.findIn K (.ref CF) "ranks" = some none)
    (na_Field_best : PySem.W.findIn K (.ref CF) "best" = some none)
    (at_Field_settle : PySem.W.findIn K (.ref CF) "settle" = some (some (.ref f_Field_settle)))
    (fn_Field_settle : PySem.W.isFn K (.ref f_Field_settle) = true)
    (D_Field_settle : DefAt K "settle" "Field.settle" sField_settle f_Field_settle)
    (at_Field_state_count : PySem.W.findIn K (.ref CF) "state_count" = some (some (.ref f_Field_state_count)))
    (fn_Field_state_count : PySem.W.isFn K (.ref f_Field_state_count) = true)
    (D_Field_state_count : DefAt K "state_count" "Field.state_count" sField_state_count f_Field_state_count)
    (at_Field_valued_count : PySem.W.findIn K (.ref CF) "valued_count" = some (some (.ref f_Field_valued_count)))
    (fn_Field_valued_count : PySem.W.isFn K (.ref f_Field_valued_count) = true)
    (D_Field_valued_count : DefAt K "valued_count" "Field.valued_count" sField_valued_count f_Field_valued_count)
    (at_Field_asked : PySem.W.findIn K (.ref CF) "asked" = some (some (.ref f_Field_asked)))
    (fn_Field_asked : PySem.W.isFn K (.ref f_Field_asked) = true)
    (D_Field_asked : DefAt K "asked" "Field.asked" sField_asked f_Field_asked)
    (at_Field_asked_from : PySem.W.findIn K (.ref CF) "asked_from" = some (some (.ref f_Field_asked_from)))
    (fn_Field_asked_from : PySem.W.isFn K (.ref f_Field_asked_from) = true)
    (D_Field_asked_from : DefAt K "asked_from" "Field.asked_from" sField_asked_from f_Field_asked_from)
    (at_Field_ways : PySem.W.findIn K (.ref CF) "ways" = some (some (.ref f_Field_ways)))
    (fn_Field_ways : PySem.W.isFn K (.ref f_Field_ways) = true)
    (D_Field_ways : DefAt K "ways" "Field.ways" sField_ways f_Field_ways)
    (at_Field_before : PySem.W.findIn K (.ref CF) "before" = some (some (.ref f_Field_before)))
    (fn_Field_before : PySem.W.isFn K (.ref f_Field_before) = true)
    (D_Field_before : DefAt K "before" "Field.before" sField_before f_Field_before)
    (at_Field_best_ways : PySem.W.findIn K (.ref CF) "best_ways" = some (some (.ref f_Field_best_ways)))
    (fn_Field_best_ways : PySem.W.isFn K (.ref f_Field_best_ways) = true)
    (D_Field_best_ways : DefAt K "best_ways" "Field.best_ways" sField_best_ways f_Field_best_ways)
    (at_Field_left : PySem.W.findIn K (.ref CF) "left" = some (some (.ref f_Field_left)))
    (fn_Field_left : PySem.W.isFn K (.ref f_Field_left) = true)
    (D_Field_left : DefAt K "left" "Field.left" sField_left f_Field_left)
    (at_Field_least_left : PySem.W.findIn K (.ref CF) "least_left" = some (some (.ref f_Field_least_left)))
    (fn_Field_least_left : PySem.W.isFn K (.ref f_Field_least_left) = true)
    (D_Field_least_left : DefAt K "least_left" "Field.least_left" sField_least_left f_Field_least_left)
    (at_Field_worst_value : PySem.W.findIn K (.ref CF) "worst_value" = some (some (.ref f_Field_worst_value)))
    (fn_Field_worst_value : PySem.W.isFn K (.ref f_Field_worst_value) = true)
    (D_Field_worst_value : DefAt K "worst_value" "Field.worst_value" sField_worst_value f_Field_worst_value)
    (at_Field_worst_row : PySem.W.findIn K (.ref CF) "worst_row" = some (some (.ref f_Field_worst_row)))
    (fn_Field_worst_row : PySem.W.isFn K (.ref f_Field_worst_row) = true)
    (D_Field_worst_row : DefAt K "worst_row" "Field.worst_row" sField_worst_row f_Field_worst_row)
    (at_Field_behind : PySem.W.findIn K (.ref CF) "behind" = some (some (.ref f_Field_behind)))
    (fn_Field_behind : PySem.W.isFn K (.ref f_Field_behind) = true)
    (D_Field_behind : DefAt K "behind" "Field.behind" sField_behind f_Field_behind)
    (at_Field_carried : PySem.W.findIn K (.ref CF) "carried" = some (some (.ref f_Field_carried)))
    (fn_Field_carried : PySem.W.isFn K (.ref f_Field_carried) = true)
    (D_Field_carried : DefAt K "carried" "Field.carried" sField_carried f_Field_carried)
    (n_Trial : PySem.W.nsIn K mainGlobals "Trial" = some (some (.ref CT)))
    (cls_Trial : Cls K CT)
    (mk_Trial : PySem.W.makesIn K CT = true)
    (kc_Trial : PySem.W.keepIn K (.ref CT) = true)
    (i_Trial : PySem.W.findIn K (.ref CT) "__init__" = some (some (.ref f_Trial_init)))
    (fn_Trial_init : PySem.W.isFn K (.ref f_Trial_init) = true)
    (D_Trial_init : DefAt K "__init__" "Trial.__init__" sTrial_init f_Trial_init)
    (na_Trial_holes : PySem.W.findIn K (.ref CT) "holes" = some none)
    (na_Trial_names : PySem.W.findIn K (.ref CT) "names" = some none)
    (na_Trial_lets : PySem.W.findIn K (.ref CT) "lets" = some none)
    (na_Trial_table : PySem.W.findIn K (.ref CT) "table" = some none)
    (na_Trial_above : PySem.W.findIn K (.ref CT) "above" = some none)
    (na_Trial_ranks : PySem.W.findIn K (.ref CT) "ranks" = some none)
    (na_Trial_best : PySem.W.findIn K (.ref CT) "best" = some none)
    (at_Trial_advance : PySem.W.findIn K (.ref CT) "advance" = some (some (.ref f_Trial_advance)))
    (fn_Trial_advance : PySem.W.isFn K (.ref f_Trial_advance) = true)
    (D_Trial_advance : DefAt K "advance" "Trial.advance" sTrial_advance f_Trial_advance)
    (n_Words : PySem.W.nsIn K mainGlobals "Words" = some (some (.ref CW)))
    (cls_Words : Cls K CW)
    (mk_Words : PySem.W.makesIn K CW = true)
    (kc_Words : PySem.W.keepIn K (.ref CW) = true)
    (i_Words : PySem.W.findIn K (.ref CW) "__init__" = some (some (.ref f_Words_init)))
    (fn_Words_init : PySem.W.isFn K (.ref f_Words_init) = true)
    (D_Words_init : DefAt K "__init__" "Words.__init__" sWords_init f_Words_init)
    (na_Words_words : PySem.W.findIn K (.ref CW) "words" = some none)
    (na_Words_length : PySem.W.findIn K (.ref CW) "length" = some none)
    (na_Words_passed : PySem.W.findIn K (.ref CW) "passed" = some none)
    (at_Words_ended : PySem.W.findIn K (.ref CW) "ended" = some (some (.ref f_Words_ended)))
    (fn_Words_ended : PySem.W.isFn K (.ref f_Words_ended) = true)
    (D_Words_ended : DefAt K "ended" "Words.ended" sWords_ended f_Words_ended)
    (at_Words_word : PySem.W.findIn K (.ref CW) "word" = some (some (.ref f_Words_word)))
    (fn_Words_word : PySem.W.isFn K (.ref f_Words_word) = true)
    (D_Words_word : DefAt K "word" "Words.word" sWords_word f_Words_word)
    (at_Words_take : PySem.W.findIn K (.ref CW) "take" = some (some (.ref f_Words_take)))
    (fn_Words_take : PySem.W.isFn K (.ref f_Words_take) = true)
    (D_Words_take : DefAt K "take" "Words.take" sWords_take f_Words_take)
    (n_Card : PySem.W.nsIn K mainGlobals "Card" = some (some (.ref CC)))
    (cls_Card : Cls K CC)
    (mk_Card : PySem.W.makesIn K CC = true)
    (kc_Card : PySem.W.keepIn K (.ref CC) = true)
    (i_Card : PySem.W.findIn K (.ref CC) "__init__" = some (some (.ref f_Card_init)))
    (fn_Card_init : PySem.W.isFn K (.ref f_Card_init) = true)
    (D_Card_init : DefAt K "__init__" "Card.__init__" sCard_init f_Card_init)
    (na_Card_field : PySem.W.findIn K (.ref CC) "field" = some none)
    (na_Card_state : PySem.W.findIn K (.ref CC) "state" = some none)
    (na_Card_changes : PySem.W.findIn K (.ref CC) "changes" = some none)
    (at_Card_change : PySem.W.findIn K (.ref CC) "change" = some (some (.ref f_Card_change)))
    (fn_Card_change : PySem.W.isFn K (.ref f_Card_change) = true)
    (D_Card_change : DefAt K "change" "Card.change" sCard_change f_Card_change)
    (at_Card_notch : PySem.W.findIn K (.ref CC) "notch" = some (some (.ref f_Card_notch)))
    (fn_Card_notch : PySem.W.isFn K (.ref f_Card_notch) = true)
    (D_Card_notch : DefAt K "notch" "Card.notch" sCard_notch f_Card_notch)
    (n_Desk : PySem.W.nsIn K mainGlobals "Desk" = some (some (.ref CD)))
    (cls_Desk : Cls K CD)
    (mk_Desk : PySem.W.makesIn K CD = true)
    (kc_Desk : PySem.W.keepIn K (.ref CD) = true)
    (i_Desk : PySem.W.findIn K (.ref CD) "__init__" = some (some (.ref f_Desk_init)))
    (fn_Desk_init : PySem.W.isFn K (.ref f_Desk_init) = true)
    (D_Desk_init : DefAt K "__init__" "Desk.__init__" sDesk_init f_Desk_init)
    (na_Desk_field : PySem.W.findIn K (.ref CD) "field" = some none)
    (na_Desk_card : PySem.W.findIn K (.ref CD) "card" = some none)
    (at_Desk_lay : PySem.W.findIn K (.ref CD) "lay" = some (some (.ref f_Desk_lay)))
    (fn_Desk_lay : PySem.W.isFn K (.ref f_Desk_lay) = true)
    (D_Desk_lay : DefAt K "lay" "Desk.lay" sDesk_lay f_Desk_lay)
    (at_Desk_renew : PySem.W.findIn K (.ref CD) "renew" = some (some (.ref f_Desk_renew)))
    (fn_Desk_renew : PySem.W.isFn K (.ref f_Desk_renew) = true)
    (D_Desk_renew : DefAt K "renew" "Desk.renew" sDesk_renew f_Desk_renew)
    (at_Trial_best_ways : PySem.W.findIn K (.ref CT) "best_ways" = some (some (.ref f_Field_best_ways)))
    (at_Trial_least_left : PySem.W.findIn K (.ref CT) "least_left" = some (some (.ref f_Field_least_left)))
    (at_Trial_asked : PySem.W.findIn K (.ref CT) "asked" = some (some (.ref f_Field_asked)))
    (at_Trial_asked_from : PySem.W.findIn K (.ref CT) "asked_from" = some (some (.ref f_Field_asked_from)))
    (at_Trial_left : PySem.W.findIn K (.ref CT) "left" = some (some (.ref f_Field_left)))
    (at_Trial_settle : PySem.W.findIn K (.ref CT) "settle" = some (some (.ref f_Field_settle)))
    (at_Trial_state_count : PySem.W.findIn K (.ref CT) "state_count" = some (some (.ref f_Field_state_count)))
    (n_Refusal : PySem.W.nsIn K mainGlobals "Refusal" = some (some (.ref CR)))
    (i_Refusal : PySem.W.findIn K (.ref CR) "__init__" = some (some (.ref f_Refusal_init)))
    (e_Refusal : ExC K CR f_Refusal_init)
    (D_Refusal_init : DefAt K "__init__" "Refusal.__init__" sRefusal_init f_Refusal_init)
    (n_NotBytes : PySem.W.nsIn K mainGlobals "NotBytes" = some (some (.ref CB)))
    (i_NotBytes : PySem.W.findIn K (.ref CB) "__init__" = some (some (.ref f_NotBytes_init)))
    (e_NotBytes : ExC K CB f_NotBytes_init)
    (D_NotBytes_init : DefAt K "__init__" "NotBytes.__init__" sNotBytes_init f_NotBytes_init)
    (n_OutOfRange : PySem.W.nsIn K mainGlobals "OutOfRange" = some (some (.ref CO)))
    (i_OutOfRange : PySem.W.findIn K (.ref CO) "__init__" = some (some (.ref f_OutOfRange_init)))
    (e_OutOfRange : ExC K CO f_OutOfRange_init)
    (D_OutOfRange_init : DefAt K "__init__" "OutOfRange.__init__" sOutOfRange_init f_OutOfRange_init)
    (n_BadList : PySem.W.nsIn K mainGlobals "BadList" = some (some (.ref CL)))
    (i_BadList : PySem.W.findIn K (.ref CL) "__init__" = some (some (.ref f_BadList_init)))
    (e_BadList : ExC K CL f_BadList_init)
    (D_BadList_init : DefAt K "__init__" "BadList.__init__" sBadList_init f_BadList_init)
    (n_NotThere : PySem.W.nsIn K mainGlobals "NotThere" = some (some (.ref CN)))
    (i_NotThere : PySem.W.findIn K (.ref CN) "__init__" = some (some (.ref f_NotThere_init)))
    (e_NotThere : ExC K CN f_NotThere_init)
    (D_NotThere_init : DefAt K "__init__" "NotThere.__init__" sNotThere_init f_NotThere_init)
    (n_NotAsked : PySem.W.nsIn K mainGlobals "NotAsked" = some (some (.ref CNA)))
    (i_NotAsked : PySem.W.findIn K (.ref CNA) "__init__" = some (some (.ref f_NotAsked_init)))
    (e_NotAsked : ExC K CNA f_NotAsked_init)
    (D_NotAsked_init : DefAt K "__init__" "NotAsked.__init__" sNotAsked_init f_NotAsked_init)
    (n_HoleNotched : PySem.W.nsIn K mainGlobals "HoleNotched" = some (some (.ref CHN)))
    (i_HoleNotched : PySem.W.findIn K (.ref CHN) "__init__" = some (some (.ref f_HoleNotched_init)))
    (e_HoleNotched : ExC K CHN f_HoleNotched_init)
    (D_HoleNotched_init : DefAt K "__init__" "HoleNotched.__init__" sHoleNotched_init f_HoleNotched_init)
    (n_WithoutWay : PySem.W.nsIn K mainGlobals "WithoutWay" = some (some (.ref CWW)))
    (i_WithoutWay : PySem.W.findIn K (.ref CWW) "__init__" = some (some (.ref f_WithoutWay_init)))
    (e_WithoutWay : ExC K CWW f_WithoutWay_init)
    (D_WithoutWay_init : DefAt K "__init__" "WithoutWay.__init__" sWithoutWay_init f_WithoutWay_init)
    (n_TooManyTables : PySem.W.nsIn K mainGlobals "TooManyTables" = some (some (.ref CM)))
    (i_TooManyTables : PySem.W.findIn K (.ref CM) "__init__" = some (some (.ref f_TooManyTables_init)))
    (e_TooManyTables : ExC K CM f_TooManyTables_init)
    (D_TooManyTables_init : DefAt K "__init__" "TooManyTables.__init__" sTooManyTables_init f_TooManyTables_init)
    (n_Fault : PySem.W.nsIn K mainGlobals "Fault" = some (some (.ref CFa)))
    (i_Fault : PySem.W.findIn K (.ref CFa) "__init__" = some (some (.ref f_Fault_init)))
    (e_Fault : ExC K CFa f_Fault_init)
    (D_Fault_init : DefAt K "__init__" "Fault.__init__" sFault_init f_Fault_init)
    (ic_Refusal : PySem.W.isClsIn K CR = true)
    (ic_Fault : PySem.W.isClsIn K CFa = true)
    (sb_FF : PySem.W.subIn K (.ref CFa) (.ref CFa) = some true)
    (sb_NotBytes : PySem.W.subIn K (.ref CB) (.ref CR) = some true)
    (sb_OutOfRange : PySem.W.subIn K (.ref CO) (.ref CR) = some true)
    (sb_BadList : PySem.W.subIn K (.ref CL) (.ref CR) = some true)
    (sb_NotThere : PySem.W.subIn K (.ref CN) (.ref CR) = some true)
    (sb_NotAsked : PySem.W.subIn K (.ref CNA) (.ref CR) = some true)
    (sb_HoleNotched : PySem.W.subIn K (.ref CHN) (.ref CR) = some true)
    (sb_WithoutWay : PySem.W.subIn K (.ref CWW) (.ref CR) = some true)
    (sb_TooManyTables : PySem.W.subIn K (.ref CM) (.ref CR) = some true)
    (sb_Fault : PySem.W.subIn K (.ref CFa) (.ref CR) = some true)
    (qa_Refusal : PySem.W.specialIn K (.ref CR) "__getattribute__" = some (some (.builtin "type.__getattribute__")))
    (qr_Refusal : PySem.W.readsIn K CR (.type "type") = true)
    (qf_Refusal : PySem.W.findCls K (.ref CR) (.type "type") "__init__" = some (.val (.ref f_Refusal_init)))
    (qa_Field : PySem.W.specialIn K (.ref CF) "__getattribute__" = some (some (.builtin "type.__getattribute__")))
    (qr_Field : PySem.W.readsIn K CF (.type "type") = true)
    (qf_Field : PySem.W.findCls K (.ref CF) (.type "type") "__init__" = some (.val (.ref f_Field_init)))
    (n_GIVEN : PySem.W.nsIn K mainGlobals "GIVEN" = some (some (.ref aG)))
    (l_GIVEN : K.lookup aG = some ⟨.type "dict", none, .dict eG eGn, #[]⟩)
    (k_GIVEN : keysI eG.toList = true)
    (g_0 : findBy Value.isInt eG 0 = some (.ref t_g0))
    (l_g0 : K.lookup t_g0 = some ⟨.type "tuple", o_g0, .seq k_g0 z_g0, s_g0⟩)
    (z_g0_ok : k_g0.size ≤ 100)
    (v_g0 : Vals [] k_g0.toList)
    (g_1 : findBy Value.isInt eG 1 = some (.ref t_g1))
    (l_g1 : K.lookup t_g1 = some ⟨.type "tuple", o_g1, .seq k_g1 z_g1, s_g1⟩)
    (z_g1_ok : k_g1.size ≤ 100)
    (v_g1 : Vals [V.str "text"] k_g1.toList)
    (g_2 : findBy Value.isInt eG 2 = some (.ref t_g2))
    (l_g2 : K.lookup t_g2 = some ⟨.type "tuple", o_g2, .seq k_g2 z_g2, s_g2⟩)
    (z_g2_ok : k_g2.size ≤ 100)
    (v_g2 : Vals [V.str "codes"] k_g2.toList)
    (g_3 : findBy Value.isInt eG 3 = some (.ref t_g3))
    (l_g3 : K.lookup t_g3 = some ⟨.type "tuple", o_g3, .seq k_g3 z_g3, s_g3⟩)
    (z_g3_ok : k_g3.size ≤ 100)
    (v_g3 : Vals [] k_g3.toList)
    (g_4 : findBy Value.isInt eG 4 = some (.ref t_g4))
    (l_g4 : K.lookup t_g4 = some ⟨.type "tuple", o_g4, .seq k_g4 z_g4, s_g4⟩)
    (z_g4_ok : k_g4.size ≤ 100)
    (v_g4 : Vals [] k_g4.toList)
    (g_5 : findBy Value.isInt eG 5 = some (.ref t_g5))
    (l_g5 : K.lookup t_g5 = some ⟨.type "tuple", o_g5, .seq k_g5 z_g5, s_g5⟩)
    (z_g5_ok : k_g5.size ≤ 100)
    (v_g5 : Vals [V.str "state"] k_g5.toList)
    (g_6 : findBy Value.isInt eG 6 = some (.ref t_g6))
    (l_g6 : K.lookup t_g6 = some ⟨.type "tuple", o_g6, .seq k_g6 z_g6, s_g6⟩)
    (z_g6_ok : k_g6.size ≤ 100)
    (v_g6 : Vals [V.str "state", V.str "value"] k_g6.toList)
    (g_7 : findBy Value.isInt eG 7 = some (.ref t_g7))
    (l_g7 : K.lookup t_g7 = some ⟨.type "tuple", o_g7, .seq k_g7 z_g7, s_g7⟩)
    (z_g7_ok : k_g7.size ≤ 100)
    (v_g7 : Vals [] k_g7.toList)
    (g_8 : findBy Value.isInt eG 8 = some (.ref t_g8))
    (l_g8 : K.lookup t_g8 = some ⟨.type "tuple", o_g8, .seq k_g8 z_g8, s_g8⟩)
    (z_g8_ok : k_g8.size ≤ 100)
    (v_g8 : Vals [V.str "state", V.str "value"] k_g8.toList)
    (g_9 : findBy Value.isInt eG 9 = some (.ref t_g9))
    (l_g9 : K.lookup t_g9 = some ⟨.type "tuple", o_g9, .seq k_g9 z_g9, s_g9⟩)
    (z_g9_ok : k_g9.size ≤ 100)
    (v_g9 : Vals [V.str "state"] k_g9.toList)
    (g_10 : findBy Value.isInt eG 10 = some (.ref t_g10))
    (l_g10 : K.lookup t_g10 = some ⟨.type "tuple", o_g10, .seq k_g10 z_g10, s_g10⟩)
    (z_g10_ok : k_g10.size ≤ 100)
    (v_g10 : Vals [V.str "state", V.str "row"] k_g10.toList)
    (g_11 : findBy Value.isInt eG 11 = some (.ref t_g11))
    (l_g11 : K.lookup t_g11 = some ⟨.type "tuple", o_g11, .seq k_g11 z_g11, s_g11⟩)
    (z_g11_ok : k_g11.size ≤ 100)
    (v_g11 : Vals [V.str "labels"] k_g11.toList)
    (g_12 : findBy Value.isInt eG 12 = some (.ref t_g12))
    (l_g12 : K.lookup t_g12 = some ⟨.type "tuple", o_g12, .seq k_g12 z_g12, s_g12⟩)
    (z_g12_ok : k_g12.size ≤ 100)
    (v_g12 : Vals [V.str "labels"] k_g12.toList)
    (g_13 : findBy Value.isInt eG 13 = some (.ref t_g13))
    (l_g13 : K.lookup t_g13 = some ⟨.type "tuple", o_g13, .seq k_g13 z_g13, s_g13⟩)
    (z_g13_ok : k_g13.size ≤ 100)
    (v_g13 : Vals [V.str "state", V.str "longest"] k_g13.toList)
    (g_14 : findBy Value.isInt eG 14 = some (.ref t_g14))
    (l_g14 : K.lookup t_g14 = some ⟨.type "tuple", o_g14, .seq k_g14 z_g14, s_g14⟩)
    (z_g14_ok : k_g14.size ≤ 100)
    (v_g14 : Vals [V.str "state", V.str "row"] k_g14.toList)
    (g_15 : findBy Value.isInt eG 15 = some (.ref t_g15))
    (l_g15 : K.lookup t_g15 = some ⟨.type "tuple", o_g15, .seq k_g15 z_g15, s_g15⟩)
    (z_g15_ok : k_g15.size ≤ 100)
    (v_g15 : Vals [V.str "state", V.str "row"] k_g15.toList)
    (g_16 : findBy Value.isInt eG 16 = some (.ref t_g16))
    (l_g16 : K.lookup t_g16 = some ⟨.type "tuple", o_g16, .seq k_g16 z_g16, s_g16⟩)
    (z_g16_ok : k_g16.size ≤ 100)
    (v_g16 : Vals [V.str "hole count", V.str "value count"] k_g16.toList)
    (g_17 : findBy Value.isInt eG 17 = some (.ref t_g17))
    (l_g17 : K.lookup t_g17 = some ⟨.type "tuple", o_g17, .seq k_g17 z_g17, s_g17⟩)
    (z_g17_ok : k_g17.size ≤ 100)
    (v_g17 : Vals [] k_g17.toList)
    (g_18 : findBy Value.isInt eG 18 = some (.ref t_g18))
    (l_g18 : K.lookup t_g18 = some ⟨.type "tuple", o_g18, .seq k_g18 z_g18, s_g18⟩)
    (z_g18_ok : k_g18.size ≤ 100)
    (v_g18 : Vals [V.str "value"] k_g18.toList)
    (g_19 : findBy Value.isInt eG 19 = some (.ref t_g19))
    (l_g19 : K.lookup t_g19 = some ⟨.type "tuple", o_g19, .seq k_g19 z_g19, s_g19⟩)
    (z_g19_ok : k_g19.size ≤ 100)
    (v_g19 : Vals [V.str "hole"] k_g19.toList)
    (g_20 : findBy Value.isInt eG 20 = some (.ref t_g20))
    (l_g20 : K.lookup t_g20 = some ⟨.type "tuple", o_g20, .seq k_g20 z_g20, s_g20⟩)
    (z_g20_ok : k_g20.size ≤ 100)
    (v_g20 : Vals [] k_g20.toList)
    (g_21 : findBy Value.isInt eG 21 = some (.ref t_g21))
    (l_g21 : K.lookup t_g21 = some ⟨.type "tuple", o_g21, .seq k_g21 z_g21, s_g21⟩)
    (z_g21_ok : k_g21.size ≤ 100)
    (v_g21 : Vals [V.str "state"] k_g21.toList)
    (n_DOERS : PySem.W.nsIn K mainGlobals "DOERS" = some (some (.ref aD)))
    (l_DOERS : K.lookup aD = some ⟨.type "dict", none, .dict eD eDn, #[]⟩)
    (k_DOERS : keysI eD.toList = true)
    (d_0 : findBy Value.isInt eD 0 = some (.ref f_call_clear))
    (d_1 : findBy Value.isInt eD 1 = some (.ref f_call_field))
    (d_2 : findBy Value.isInt eD 2 = some (.ref f_call_look))
    (d_3 : findBy Value.isInt eD 3 = some (.ref f_call_text))
    (d_4 : findBy Value.isInt eD 4 = some (.ref f_call_told))
    (d_5 : findBy Value.isInt eD 5 = some (.ref f_call_value))
    (d_6 : findBy Value.isInt eD 6 = some (.ref f_call_ways))
    (d_7 : findBy Value.isInt eD 7 = some (.ref f_call_ranks))
    (d_8 : findBy Value.isInt eD 8 = some (.ref f_call_go))
    (d_9 : findBy Value.isInt eD 9 = some (.ref f_call_worst))
    (d_10 : findBy Value.isInt eD 10 = some (.ref f_call_carry))
    (d_11 : findBy Value.isInt eD 11 = some (.ref f_call_lower))
    (d_12 : findBy Value.isInt eD 12 = some (.ref f_call_upper))
    (d_13 : findBy Value.isInt eD 13 = some (.ref f_call_known))
    (d_14 : findBy Value.isInt eD 14 = some (.ref f_call_far))
    (d_15 : findBy Value.isInt eD 15 = some (.ref f_call_may))
    (d_16 : findBy Value.isInt eD 16 = some (.ref f_call_best))
    (d_17 : findBy Value.isInt eD 17 = some (.ref f_call_new))
    (d_18 : findBy Value.isInt eD 18 = some (.ref f_call_change))
    (d_19 : findBy Value.isInt eD 19 = some (.ref f_call_notch))
    (d_20 : findBy Value.isInt eD 20 = some (.ref f_call_card))
    (d_21 : findBy Value.isInt eD 21 = some (.ref f_call_before))
    (n_LISTS : PySem.W.nsIn K mainGlobals "LISTS" = some (some (.ref aL)))
    (l_LISTS : K.lookup aL = some ⟨.type "tuple", o_LISTS, .seq k_LISTS z_LISTS, s_LISTS⟩)
    (z_LISTS_ok : k_LISTS.size ≤ 100)
    (v_LISTS : Vals [V.str "text", V.str "codes", V.str "row", V.str "labels"] k_LISTS.toList)
    (n_RANGES : PySem.W.nsIn K mainGlobals "RANGES" = some (some (.ref aR)))
    (l_RANGES : K.lookup aR = some ⟨.type "dict", none, .dict eR eRn, #[]⟩)
    (k_RANGES : PySem.W.KeysLit w.params eR.toList)
    (low_RANGES : (aR == sysModules) = false)
    (r_0 : PySem.W.nsIn K aR "longest" = some (some (.ref t_r0)))
    (l_r0 : K.lookup t_r0 = some ⟨.type "tuple", o_r0, .seq k_r0 z_r0, s_r0⟩)
    (z_r0_ok : k_r0.size ≤ 100)
    (v_r0 : Vals [V.int 1, V.int 3] k_r0.toList)
    (r_1 : PySem.W.nsIn K aR "hole count" = some (some (.ref t_r1)))
    (l_r1 : K.lookup t_r1 = some ⟨.type "tuple", o_r1, .seq k_r1 z_r1, s_r1⟩)
    (z_r1_ok : k_r1.size ≤ 100)
    (v_r1 : Vals [V.int 1, V.int 3] k_r1.toList)
    (r_2 : PySem.W.nsIn K aR "value count" = some (some (.ref t_r2)))
    (l_r2 : K.lookup t_r2 = some ⟨.type "tuple", o_r2, .seq k_r2 z_r2, s_r2⟩)
    (z_r2_ok : k_r2.size ≤ 100)
    (v_r2 : Vals [V.int 2, V.int 8] k_r2.toList)
    (rn_state : PySem.W.nsIn K aR "state" = some none)
    (rn_value : PySem.W.nsIn K aR "value" = some none)
    (rn_hole : PySem.W.nsIn K aR "hole" = some none)
    (rn_row : PySem.W.nsIn K aR "row" = some none)
    (rn_labels : PySem.W.nsIn K aR "labels" = some none)
    (rn_codes : PySem.W.nsIn K aR "codes" = some none)
    (rn_text : PySem.W.nsIn K aR "text" = some none)
    : ∃ fd : FuncData, (∀ (s : Shared) (us : List Value), us.length = (["calls"] : List Str).length → BindsTo s fd ⟨us, []⟩ ((["calls"] : List Str).zip us)) ∧ ∀ base : Heap, K.In base → base.Ns mainGlobals mg → FnOk P w K mg base CX0 11 fa fd ["calls"] (sp_answers K Ask) := by
  have gm : ∀ {x : Str} {v : Option Value}, PySem.W.nsIn K mainGlobals x = some v → mg x = v := fun {x v} e => match v, e with | some _, e => PySem.W.mg_of X G e | none, e => PySem.W.mg_none_of X G e
  have e0 := hfa.symm.trans (gm n_answers)
  cases e0
  obtain ⟨fd_Refusal_init, F_Refusal_init⟩ := D_Refusal_init
  obtain ⟨fd_NotBytes_init, F_NotBytes_init⟩ := D_NotBytes_init
  obtain ⟨fd_OutOfRange_init, F_OutOfRange_init⟩ := D_OutOfRange_init
  obtain ⟨fd_BadList_init, F_BadList_init⟩ := D_BadList_init
  obtain ⟨fd_NotThere_init, F_NotThere_init⟩ := D_NotThere_init
  obtain ⟨fd_NotAsked_init, F_NotAsked_init⟩ := D_NotAsked_init
  obtain ⟨fd_HoleNotched_init, F_HoleNotched_init⟩ := D_HoleNotched_init
  obtain ⟨fd_WithoutWay_init, F_WithoutWay_init⟩ := D_WithoutWay_init
  obtain ⟨fd_TooManyTables_init, F_TooManyTables_init⟩ := D_TooManyTables_init
  obtain ⟨fd_Fault_init, F_Fault_init⟩ := D_Fault_init
  obtain ⟨fd_Field_init, F_Field_init⟩ := D_Field_init
  obtain ⟨fd_Field_settle, F_Field_settle⟩ := D_Field_settle
  obtain ⟨fd_Field_state_count, F_Field_state_count⟩ := D_Field_state_count
  obtain ⟨fd_Field_valued_count, F_Field_valued_count⟩ := D_Field_valued_count
  obtain ⟨fd_Field_asked, F_Field_asked⟩ := D_Field_asked
  obtain ⟨fd_Field_asked_from, F_Field_asked_from⟩ := D_Field_asked_from
  obtain ⟨fd_Field_ways, F_Field_ways⟩ := D_Field_ways
  obtain ⟨fd_Field_before, F_Field_before⟩ := D_Field_before
  obtain ⟨fd_Field_best_ways, F_Field_best_ways⟩ := D_Field_best_ways
  obtain ⟨fd_Field_left, F_Field_left⟩ := D_Field_left
  obtain ⟨fd_Field_least_left, F_Field_least_left⟩ := D_Field_least_left
  obtain ⟨fd_Field_worst_value, F_Field_worst_value⟩ := D_Field_worst_value
  obtain ⟨fd_Field_worst_row, F_Field_worst_row⟩ := D_Field_worst_row
  obtain ⟨fd_Field_behind, F_Field_behind⟩ := D_Field_behind
  obtain ⟨fd_Field_carried, F_Field_carried⟩ := D_Field_carried
  obtain ⟨fd_first_field, F_first_field⟩ := D_first_field
  obtain ⟨fd_more_notched, F_more_notched⟩ := D_more_notched
  obtain ⟨fd_notch_count, F_notch_count⟩ := D_notch_count
  obtain ⟨fd_sign_of, F_sign_of⟩ := D_sign_of
  obtain ⟨fd_words_of, F_words_of⟩ := D_words_of
  obtain ⟨fd_Words_init, F_Words_init⟩ := D_Words_init
  obtain ⟨fd_Words_ended, F_Words_ended⟩ := D_Words_ended
  obtain ⟨fd_Words_word, F_Words_word⟩ := D_Words_word
  obtain ⟨fd_Words_take, F_Words_take⟩ := D_Words_take
  obtain ⟨fd_take_number, F_take_number⟩ := D_take_number
  obtain ⟨fd_take_value, F_take_value⟩ := D_take_value
  obtain ⟨fd_may_be_name, F_may_be_name⟩ := D_may_be_name
  obtain ⟨fd_read_holes, F_read_holes⟩ := D_read_holes
  obtain ⟨fd_read_names, F_read_names⟩ := D_read_names
  obtain ⟨fd_read_let, F_read_let⟩ := D_read_let
  obtain ⟨fd_read_at, F_read_at⟩ := D_read_at
  obtain ⟨fd_read_field, F_read_field⟩ := D_read_field
  obtain ⟨fd_state_line, F_state_line⟩ := D_state_line
  obtain ⟨fd_one_text, F_one_text⟩ := D_one_text
  obtain ⟨fd_parted, F_parted⟩ := D_parted
  obtain ⟨fd_checked_range, F_checked_range⟩ := D_checked_range
  obtain ⟨fd_checked_number, F_checked_number⟩ := D_checked_number
  obtain ⟨fd_checked_bytes, F_checked_bytes⟩ := D_checked_bytes
  obtain ⟨fd_checked_row, F_checked_row⟩ := D_checked_row
  obtain ⟨fd_checked_labels, F_checked_labels⟩ := D_checked_labels
  obtain ⟨fd_checked, F_checked⟩ := D_checked
  obtain ⟨fd_is_borne, F_is_borne⟩ := D_is_borne
  obtain ⟨fd_is_never_passed, F_is_never_passed⟩ := D_is_never_passed
  obtain ⟨fd_states_not_borne, F_states_not_borne⟩ := D_states_not_borne
  obtain ⟨fd_states_passed, F_states_passed⟩ := D_states_passed
  obtain ⟨fd_behind_any, F_behind_any⟩ := D_behind_any
  obtain ⟨fd_may_be, F_may_be⟩ := D_may_be
  obtain ⟨fd_farthest, F_farthest⟩ := D_farthest
  obtain ⟨fd_lost_row, F_lost_row⟩ := D_lost_row
  obtain ⟨fd_Trial_init, F_Trial_init⟩ := D_Trial_init
  obtain ⟨fd_Trial_advance, F_Trial_advance⟩ := D_Trial_advance
  obtain ⟨fd_table_count, F_table_count⟩ := D_table_count
  obtain ⟨fd_best_field, F_best_field⟩ := D_best_field
  obtain ⟨fd_rank_number, F_rank_number⟩ := D_rank_number
  obtain ⟨fd_counted, F_counted⟩ := D_counted
  obtain ⟨fd_value_number, F_value_number⟩ := D_value_number
  obtain ⟨fd_judged, F_judged⟩ := D_judged
  obtain ⟨fd_call_clear, F_call_clear⟩ := D_call_clear
  obtain ⟨fd_call_field, F_call_field⟩ := D_call_field
  obtain ⟨fd_call_look, F_call_look⟩ := D_call_look
  obtain ⟨fd_call_text, F_call_text⟩ := D_call_text
  obtain ⟨fd_call_told, F_call_told⟩ := D_call_told
  obtain ⟨fd_call_value, F_call_value⟩ := D_call_value
  obtain ⟨fd_call_ways, F_call_ways⟩ := D_call_ways
  obtain ⟨fd_call_ranks, F_call_ranks⟩ := D_call_ranks
  obtain ⟨fd_call_go, F_call_go⟩ := D_call_go
  obtain ⟨fd_call_worst, F_call_worst⟩ := D_call_worst
  obtain ⟨fd_call_carry, F_call_carry⟩ := D_call_carry
  obtain ⟨fd_call_lower, F_call_lower⟩ := D_call_lower
  obtain ⟨fd_call_upper, F_call_upper⟩ := D_call_upper
  obtain ⟨fd_call_known, F_call_known⟩ := D_call_known
  obtain ⟨fd_call_far, F_call_far⟩ := D_call_far
  obtain ⟨fd_call_may, F_call_may⟩ := D_call_may
  obtain ⟨fd_call_best, F_call_best⟩ := D_call_best
  obtain ⟨fd_call_new, F_call_new⟩ := D_call_new
  obtain ⟨fd_call_change, F_call_change⟩ := D_call_change
  obtain ⟨fd_call_notch, F_call_notch⟩ := D_call_notch
  obtain ⟨fd_call_card, F_call_card⟩ := D_call_card
  obtain ⟨fd_call_before, F_call_before⟩ := D_call_before
  obtain ⟨fd_answer, F_answer⟩ := D_answer
  obtain ⟨fd_Card_init, F_Card_init⟩ := D_Card_init
  obtain ⟨fd_Card_change, F_Card_change⟩ := D_Card_change
  obtain ⟨fd_Card_notch, F_Card_notch⟩ := D_Card_notch
  obtain ⟨fd_Desk_init, F_Desk_init⟩ := D_Desk_init
  obtain ⟨fd_Desk_lay, F_Desk_lay⟩ := D_Desk_lay
  obtain ⟨fd_Desk_renew, F_Desk_renew⟩ := D_Desk_renew
  obtain ⟨fd_answers, F_answers⟩ := D_answers
  have b_Refusal_init := F_Refusal_init.binds (ps := ["self", "number"]) fun _ _ _ _ _ _ us hl => match us, hl with | [_, _], _ => rfl
  have b_NotBytes_init := F_NotBytes_init.binds (ps := ["self"]) fun _ _ _ _ _ _ us hl => match us, hl with | [_], _ => rfl
  have b_OutOfRange_init := F_OutOfRange_init.binds (ps := ["self"]) fun _ _ _ _ _ _ us hl => match us, hl with | [_], _ => rfl
  have b_BadList_init := F_BadList_init.binds (ps := ["self"]) fun _ _ _ _ _ _ us hl => match us, hl with | [_], _ => rfl
  have b_NotThere_init := F_NotThere_init.binds (ps := ["self"]) fun _ _ _ _ _ _ us hl => match us, hl with | [_], _ => rfl
  have b_NotAsked_init := F_NotAsked_init.binds (ps := ["self"]) fun _ _ _ _ _ _ us hl => match us, hl with | [_], _ => rfl
  have b_HoleNotched_init := F_HoleNotched_init.binds (ps := ["self"]) fun _ _ _ _ _ _ us hl => match us, hl with | [_], _ => rfl
  have b_WithoutWay_init := F_WithoutWay_init.binds (ps := ["self"]) fun _ _ _ _ _ _ us hl => match us, hl with | [_], _ => rfl
  have b_TooManyTables_init := F_TooManyTables_init.binds (ps := ["self"]) fun _ _ _ _ _ _ us hl => match us, hl with | [_], _ => rfl
  have b_Fault_init := F_Fault_init.binds (ps := ["self", "place"]) fun _ _ _ _ _ _ us hl => match us, hl with | [_, _], _ => rfl
  have b_Field_init := F_Field_init.binds (ps := ["self", "holes", "names", "lets", "table"]) fun _ _ _ _ _ _ us hl => match us, hl with | [_, _, _, _, _], _ => rfl
  have b_Field_settle := F_Field_settle.binds (ps := ["self", "state"]) fun _ _ _ _ _ _ us hl => match us, hl with | [_, _], _ => rfl
  have b_Field_state_count := F_Field_state_count.binds (ps := ["self"]) fun _ _ _ _ _ _ us hl => match us, hl with | [_], _ => rfl
  have b_Field_valued_count := F_Field_valued_count.binds (ps := ["self"]) fun _ _ _ _ _ _ us hl => match us, hl with | [_], _ => rfl
  have b_Field_asked := F_Field_asked.binds (ps := ["self", "state"]) fun _ _ _ _ _ _ us hl => match us, hl with | [_, _], _ => rfl
  have b_Field_asked_from := F_Field_asked_from.binds (ps := ["self", "own"]) fun _ _ _ _ _ _ us hl => match us, hl with | [_, _], _ => rfl
  have b_Field_ways := F_Field_ways.binds (ps := ["self", "state", "value"]) fun _ _ _ _ _ _ us hl => match us, hl with | [_, _, _], _ => rfl
  have b_Field_before := F_Field_before.binds (ps := ["self", "state"]) fun _ _ _ _ _ _ us hl => match us, hl with | [_, _], _ => rfl
  have b_Field_best_ways := F_Field_best_ways.binds (ps := ["self", "state"]) fun _ _ _ _ _ _ us hl => match us, hl with | [_, _], _ => rfl
  have b_Field_left := F_Field_left.binds (ps := ["self", "state", "value"]) fun _ _ _ _ _ _ us hl => match us, hl with | [_, _, _], _ => rfl
  have b_Field_least_left := F_Field_least_left.binds (ps := ["self", "state"]) fun _ _ _ _ _ _ us hl => match us, hl with | [_, _], _ => rfl
  have b_Field_worst_value := F_Field_worst_value.binds (ps := ["self", "state"]) fun _ _ _ _ _ _ us hl => match us, hl with | [_, _], _ => rfl
  have b_Field_worst_row := F_Field_worst_row.binds (ps := ["self", "state"]) fun _ _ _ _ _ _ us hl => match us, hl with | [_, _], _ => rfl
  have b_Field_behind := F_Field_behind.binds (ps := ["self", "state", "value"]) fun _ _ _ _ _ _ us hl => match us, hl with | [_, _, _], _ => rfl
  have b_Field_carried := F_Field_carried.binds (ps := ["self", "state", "row"]) fun _ _ _ _ _ _ us hl => match us, hl with | [_, _, _], _ => rfl
  have b_first_field := F_first_field.binds (ps := []) fun _ _ _ _ _ _ us hl => match us, hl with | [], _ => rfl
  have b_more_notched := F_more_notched.binds (ps := ["state", "count"]) fun _ _ _ _ _ _ us hl => match us, hl with | [_, _], _ => rfl
  have b_notch_count := F_notch_count.binds (ps := ["state"]) fun _ _ _ _ _ _ us hl => match us, hl with | [_], _ => rfl
  have b_sign_of := F_sign_of.binds (ps := ["code"]) fun _ _ _ _ _ _ us hl => match us, hl with | [_], _ => rfl
  have b_words_of := F_words_of.binds (ps := ["text"]) fun _ _ _ _ _ _ us hl => match us, hl with | [_], _ => rfl
  have b_Words_init := F_Words_init.binds (ps := ["self", "codes"]) fun _ _ _ _ _ _ us hl => match us, hl with | [_, _], _ => rfl
  have b_Words_ended := F_Words_ended.binds (ps := ["self"]) fun _ _ _ _ _ _ us hl => match us, hl with | [_], _ => rfl
  have b_Words_word := F_Words_word.binds (ps := ["self"]) fun _ _ _ _ _ _ us hl => match us, hl with | [_], _ => rfl
  have b_Words_take := F_Words_take.binds (ps := ["self", "may_stand"]) fun _ _ _ _ _ _ us hl => match us, hl with | [_, _], _ => rfl
  have b_take_number := F_take_number.binds (ps := ["words", "least", "greatest"]) fun _ _ _ _ _ _ us hl => match us, hl with | [_, _, _], _ => rfl
  have b_take_value := F_take_value.binds (ps := ["words", "names"]) fun _ _ _ _ _ _ us hl => match us, hl with | [_, _], _ => rfl
  have b_may_be_name := F_may_be_name.binds (ps := ["word"]) fun _ _ _ _ _ _ us hl => match us, hl with | [_], _ => rfl
  have b_read_holes := F_read_holes.binds (ps := ["words"]) fun _ _ _ _ _ _ us hl => match us, hl with | [_], _ => rfl
  have b_read_names := F_read_names.binds (ps := ["words"]) fun _ _ _ _ _ _ us hl => match us, hl with | [_], _ => rfl
  have b_read_let := F_read_let.binds (ps := ["words", "names", "lets"]) fun _ _ _ _ _ _ us hl => match us, hl with | [_, _, _], _ => rfl
  have b_read_at := F_read_at.binds (ps := ["words", "holes", "names", "table"]) fun _ _ _ _ _ _ us hl => match us, hl with | [_, _, _, _], _ => rfl
  have b_read_field := F_read_field.binds (ps := ["codes"]) fun _ _ _ _ _ _ us hl => match us, hl with | [_], _ => rfl
  have b_state_line := F_state_line.binds (ps := ["field", "state"]) fun _ _ _ _ _ _ us hl => match us, hl with | [_, _], _ => rfl
  have b_one_text := F_one_text.binds (ps := ["field"]) fun _ _ _ _ _ _ us hl => match us, hl with | [_], _ => rfl
  have b_parted := F_parted.binds (ps := ["calls"]) fun _ _ _ _ _ _ us hl => match us, hl with | [_], _ => rfl
  have b_checked_range := F_checked_range.binds (ps := ["number", "least", "greatest"]) fun _ _ _ _ _ _ us hl => match us, hl with | [_, _, _], _ => rfl
  have b_checked_number := F_checked_number.binds (ps := ["number", "greatest", "count"]) fun _ _ _ _ _ _ us hl => match us, hl with | [_, _, _], _ => rfl
  have b_checked_bytes := F_checked_bytes.binds (ps := ["codes"]) fun _ _ _ _ _ _ us hl => match us, hl with | [_], _ => rfl
  have b_checked_row := F_checked_row.binds (ps := ["row", "count"]) fun _ _ _ _ _ _ us hl => match us, hl with | [_, _], _ => rfl
  have b_checked_labels := F_checked_labels.binds (ps := ["labels", "count"]) fun _ _ _ _ _ _ us hl => match us, hl with | [_, _], _ => rfl
  have b_checked := F_checked.binds (ps := ["field", "kind", "thing"]) fun _ _ _ _ _ _ us hl => match us, hl with | [_, _, _], _ => rfl
  have b_is_borne := F_is_borne.binds (ps := ["field", "labels", "state"]) fun _ _ _ _ _ _ us hl => match us, hl with | [_, _, _], _ => rfl
  have b_is_never_passed := F_is_never_passed.binds (ps := ["field", "labels", "state"]) fun _ _ _ _ _ _ us hl => match us, hl with | [_, _, _], _ => rfl
  have b_states_not_borne := F_states_not_borne.binds (ps := ["field", "labels"]) fun _ _ _ _ _ _ us hl => match us, hl with | [_, _], _ => rfl
  have b_states_passed := F_states_passed.binds (ps := ["field", "labels"]) fun _ _ _ _ _ _ us hl => match us, hl with | [_, _], _ => rfl
  have b_behind_any := F_behind_any.binds (ps := ["field", "states", "value"]) fun _ _ _ _ _ _ us hl => match us, hl with | [_, _, _], _ => rfl
  have b_may_be := F_may_be.binds (ps := ["field", "state", "row"]) fun _ _ _ _ _ _ us hl => match us, hl with | [_, _, _], _ => rfl
  have b_farthest := F_farthest.binds (ps := ["field", "state", "row"]) fun _ _ _ _ _ _ us hl => match us, hl with | [_, _, _], _ => rfl
  have b_lost_row := F_lost_row.binds (ps := ["field", "states", "own", "longest"]) fun _ _ _ _ _ _ us hl => match us, hl with | [_, _, _, _], _ => rfl
  have b_Trial_init := F_Trial_init.binds (ps := ["self", "holes", "count"]) fun _ _ _ _ _ _ us hl => match us, hl with | [_, _, _], _ => rfl
  have b_Trial_advance := F_Trial_advance.binds (ps := ["self"]) fun _ _ _ _ _ _ us hl => match us, hl with | [_], _ => rfl
  have b_table_count := F_table_count.binds (ps := ["holes", "count"]) fun _ _ _ _ _ _ us hl => match us, hl with | [_, _], _ => rfl
  have b_best_field := F_best_field.binds (ps := ["holes", "count"]) fun _ _ _ _ _ _ us hl => match us, hl with | [_, _], _ => rfl
  have b_rank_number := F_rank_number.binds (ps := ["rank"]) fun _ _ _ _ _ _ us hl => match us, hl with | [_], _ => rfl
  have b_counted := F_counted.binds (ps := ["numbers"]) fun _ _ _ _ _ _ us hl => match us, hl with | [_], _ => rfl
  have b_value_number := F_value_number.binds (ps := ["value"]) fun _ _ _ _ _ _ us hl => match us, hl with | [_], _ => rfl
  have b_judged := F_judged.binds (ps := ["labels", "wrong"]) fun _ _ _ _ _ _ us hl => match us, hl with | [_, _], _ => rfl
  have b_call_clear := F_call_clear.binds (ps := ["desk", "given"]) fun _ _ _ _ _ _ us hl => match us, hl with | [_, _], _ => rfl
  have b_call_field := F_call_field.binds (ps := ["desk", "given"]) fun _ _ _ _ _ _ us hl => match us, hl with | [_, _], _ => rfl
  have b_call_look := F_call_look.binds (ps := ["desk", "given"]) fun _ _ _ _ _ _ us hl => match us, hl with | [_, _], _ => rfl
  have b_call_text := F_call_text.binds (ps := ["desk", "given"]) fun _ _ _ _ _ _ us hl => match us, hl with | [_, _], _ => rfl
  have b_call_told := F_call_told.binds (ps := ["desk", "given"]) fun _ _ _ _ _ _ us hl => match us, hl with | [_, _], _ => rfl
  have b_call_value := F_call_value.binds (ps := ["desk", "given"]) fun _ _ _ _ _ _ us hl => match us, hl with | [_, _], _ => rfl
  have b_call_ways := F_call_ways.binds (ps := ["desk", "given"]) fun _ _ _ _ _ _ us hl => match us, hl with | [_, _], _ => rfl
  have b_call_ranks := F_call_ranks.binds (ps := ["desk", "given"]) fun _ _ _ _ _ _ us hl => match us, hl with | [_, _], _ => rfl
  have b_call_go := F_call_go.binds (ps := ["desk", "given"]) fun _ _ _ _ _ _ us hl => match us, hl with | [_, _], _ => rfl
  have b_call_worst := F_call_worst.binds (ps := ["desk", "given"]) fun _ _ _ _ _ _ us hl => match us, hl with | [_, _], _ => rfl
  have b_call_carry := F_call_carry.binds (ps := ["desk", "given"]) fun _ _ _ _ _ _ us hl => match us, hl with | [_, _], _ => rfl
  have b_call_lower := F_call_lower.binds (ps := ["desk", "given"]) fun _ _ _ _ _ _ us hl => match us, hl with | [_, _], _ => rfl
  have b_call_upper := F_call_upper.binds (ps := ["desk", "given"]) fun _ _ _ _ _ _ us hl => match us, hl with | [_, _], _ => rfl
  have b_call_known := F_call_known.binds (ps := ["desk", "given"]) fun _ _ _ _ _ _ us hl => match us, hl with | [_, _], _ => rfl
  have b_call_far := F_call_far.binds (ps := ["desk", "given"]) fun _ _ _ _ _ _ us hl => match us, hl with | [_, _], _ => rfl
  have b_call_may := F_call_may.binds (ps := ["desk", "given"]) fun _ _ _ _ _ _ us hl => match us, hl with | [_, _], _ => rfl
  have b_call_best := F_call_best.binds (ps := ["desk", "given"]) fun _ _ _ _ _ _ us hl => match us, hl with | [_, _], _ => rfl
  have b_call_new := F_call_new.binds (ps := ["desk", "given"]) fun _ _ _ _ _ _ us hl => match us, hl with | [_, _], _ => rfl
  have b_call_change := F_call_change.binds (ps := ["desk", "given"]) fun _ _ _ _ _ _ us hl => match us, hl with | [_, _], _ => rfl
  have b_call_notch := F_call_notch.binds (ps := ["desk", "given"]) fun _ _ _ _ _ _ us hl => match us, hl with | [_, _], _ => rfl
  have b_call_card := F_call_card.binds (ps := ["desk", "given"]) fun _ _ _ _ _ _ us hl => match us, hl with | [_, _], _ => rfl
  have b_call_before := F_call_before.binds (ps := ["desk", "given"]) fun _ _ _ _ _ _ us hl => match us, hl with | [_, _], _ => rfl
  have b_answer := F_answer.binds (ps := ["desk", "number", "given"]) fun _ _ _ _ _ _ us hl => match us, hl with | [_, _, _], _ => rfl
  have b_Card_init := F_Card_init.binds (ps := ["self", "field"]) fun _ _ _ _ _ _ us hl => match us, hl with | [_, _], _ => rfl
  have b_Card_change := F_Card_change.binds (ps := ["self", "value"]) fun _ _ _ _ _ _ us hl => match us, hl with | [_, _], _ => rfl
  have b_Card_notch := F_Card_notch.binds (ps := ["self", "hole"]) fun _ _ _ _ _ _ us hl => match us, hl with | [_, _], _ => rfl
  have b_Desk_init := F_Desk_init.binds (ps := ["self"]) fun _ _ _ _ _ _ us hl => match us, hl with | [_], _ => rfl
  have b_Desk_lay := F_Desk_lay.binds (ps := ["self", "field"]) fun _ _ _ _ _ _ us hl => match us, hl with | [_, _], _ => rfl
  have b_Desk_renew := F_Desk_renew.binds (ps := ["self"]) fun _ _ _ _ _ _ us hl => match us, hl with | [_], _ => rfl
  have b_answers := F_answers.binds (ps := ["calls"]) fun _ _ _ _ _ _ us hl => match us, hl with | [_], _ => rfl
  have TF : Txt K mg CF := ⟨cls_Field, na_Field_holes, na_Field_names, na_Field_lets, na_Field_table, na_Field_above, na_Field_ranks, na_Field_best, gm b_len, gm b_range, gm b_list, gm b_str, gm b_int, gm b_ord, gm b_min, ⟨_, gm c_NO_VALUE⟩, ⟨_, gm c_NO_WAY⟩, ⟨_, gm c_NO_END⟩⟩
  have TT : Txt K mg CT := ⟨cls_Trial, na_Trial_holes, na_Trial_names, na_Trial_lets, na_Trial_table, na_Trial_above, na_Trial_ranks, na_Trial_best, gm b_len, gm b_range, gm b_list, gm b_str, gm b_int, gm b_ord, gm b_min, ⟨_, gm c_NO_VALUE⟩, ⟨_, gm c_NO_WAY⟩, ⟨_, gm c_NO_END⟩⟩
  have TW : TxtW K mg CW := ⟨cls_Words, na_Words_words, na_Words_length, na_Words_passed, gm b_len, gm b_range, gm b_str, gm b_int⟩
  have TTx : TxtT mg := ⟨gm b_len, gm b_str, ⟨_, gm c_LINE_END⟩, ⟨_, gm c_LETTERS⟩⟩
  have TR : TxtR mg := ⟨gm b_len, gm b_range, gm b_str, gm b_int, ⟨_, gm c_LINE_END⟩, ⟨_, gm c_LONGEST_NAME⟩, ⟨_, gm c_MOST_HOLES⟩, ⟨_, gm c_MOST_VALUES⟩, ⟨_, gm c_MOST_LETS⟩, ⟨_, gm c_NO_VALUE⟩⟩
  have TO : TxtO mg := { TR with ord := gm b_ord }
  have TK : TxtK mg := ⟨gm b_len, ⟨_, gm c_GREATEST_STATE⟩, ⟨_, gm c_GREATEST_VALUE⟩, ⟨_, gm c_GREATEST_BYTE⟩, ⟨_, gm c_GREATEST_LABEL⟩, ⟨_, gm c_LONGEST_ROW⟩, ⟨_, gm c_NO_END⟩⟩
  have TD : TxtD K mg CD CC CF := { TF with cD := cls_Desk, nField := na_Desk_field, nCard := na_Desk_card, cC := cls_Card, nFieldC := na_Card_field, nState := na_Card_state, nChanges := na_Card_changes }
  have TC : TxtC K mg CD CF := { TF with cD := cls_Desk, nField := na_Desk_field }
  have TL : TxtL K mg CF := { TF with any := gm b_any, all := gm b_all, sorted := gm b_sorted, set := gm b_set }
  have TB : TxtB K mg CT := { TT with MOST_TABLES := ⟨_, gm c_MOST_TABLES⟩ }
  have TA : TxtA mg := ⟨gm b_len⟩
  have TW2 : TxtW2 K mg aD CR CD := ⟨gm n_DOERS, gm n_Refusal, cls_Desk, na_Desk_field⟩
  have w_kT : S kT = ("text" : Str) := by decide +kernel
  have w_kC : S kC = ("codes" : Str) := by decide +kernel
  have w_kS : S kS = ("state" : Str) := by decide +kernel
  have w_kV : S kV = ("value" : Str) := by decide +kernel
  have w_kR : S kR = ("row" : Str) := by decide +kernel
  have w_kL : S kL = ("labels" : Str) := by decide +kernel
  have w_kN : S kN = ("longest" : Str) := by decide +kernel
  have w_kHC : S kHC = ("hole count" : Str) := by decide +kernel
  have w_kVC : S kVC = ("value count" : Str) := by decide +kernel
  have w_kH : S kH = ("hole" : Str) := by decide +kernel
  have kR_ : KDict K w aR eR eRn := ⟨l_RANGES, k_RANGES, low_RANGES⟩
  have two0 : KTwo K w aR (S kN) 1 3 := by
    rw [w_kN]
    exact ⟨⟨_, _, kR_⟩, _, r_0, fun H => tup_sq l_r0 z_r0_ok v_r0 H⟩
  have two1 : KTwo K w aR (S kHC) 1 3 := by
    rw [w_kHC]
    exact ⟨⟨_, _, kR_⟩, _, r_1, fun H => tup_sq l_r1 z_r1_ok v_r1 H⟩
  have two2 : KTwo K w aR (S kVC) 2 8 := by
    rw [w_kVC]
    exact ⟨⟨_, _, kR_⟩, _, r_2, fun H => tup_sq l_r2 z_r2_ok v_r2 H⟩
  have no_kS : KNo K w aR (S kS) := by
    rw [w_kS]
    exact ⟨⟨_, _, kR_⟩, rn_state⟩
  have no_kV : KNo K w aR (S kV) := by
    rw [w_kV]
    exact ⟨⟨_, _, kR_⟩, rn_value⟩
  have no_kH : KNo K w aR (S kH) := by
    rw [w_kH]
    exact ⟨⟨_, _, kR_⟩, rn_hole⟩
  have no_kR : KNo K w aR (S kR) := by
    rw [w_kR]
    exact ⟨⟨_, _, kR_⟩, rn_row⟩
  have no_kL : KNo K w aR (S kL) := by
    rw [w_kL]
    exact ⟨⟨_, _, kR_⟩, rn_labels⟩
  have no_kC : KNo K w aR (S kC) := by
    rw [w_kC]
    exact ⟨⟨_, _, kR_⟩, rn_codes⟩
  have no_kT : KNo K w aR (S kT) := by
    rw [w_kT]
    exact ⟨⟨_, _, kR_⟩, rn_text⟩
  have hrn : ∀ z ∈ [Vbenaf.W "state", Vbenaf.W "value", Vbenaf.W "hole", Vbenaf.W "row", Vbenaf.W "labels", Vbenaf.W "codes", Vbenaf.W "text"], KNo K w aR (S z) := fun z hz => by
    rcases List.mem_cons.mp hz with h | hz
    · rw [h]
      exact no_kS
    rcases List.mem_cons.mp hz with h | hz
    · rw [h]
      exact no_kV
    rcases List.mem_cons.mp hz with h | hz
    · rw [h]
      exact no_kH
    rcases List.mem_cons.mp hz with h | hz
    · rw [h]
      exact no_kR
    rcases List.mem_cons.mp hz with h | hz
    · rw [h]
      exact no_kL
    rcases List.mem_cons.mp hz with h | hz
    · rw [h]
      exact no_kC
    rcases List.mem_cons.mp hz with h | hz
    · rw [h]
      exact no_kT
    cases hz
  have TK2 : TxtK2 K w mg CF aR := { TF with GREATEST_STATE := ⟨_, gm c_GREATEST_STATE⟩, GREATEST_VALUE := ⟨_, gm c_GREATEST_VALUE⟩, GREATEST_HOLE := ⟨_, gm c_GREATEST_HOLE⟩, RANGES := (gm n_RANGES), r1 := two0, r2 := two1, r3 := two2, rn := hrn }
  have hGiven : ∀ p n k, PyVbenaf.shape p = some (n, k) → ∃ aT, KInt K aG p (.ref aT) ∧ ∀ H, SqT K H aT (vstrs (gv p)) := fun p n k hp => by
    cases shape_case hp
    · refine ⟨t_g0, ⟨_, _, _, l_GIVEN, k_GIVEN, g_0, rfl⟩, fun H => ?_⟩
      have e : vstrs (gv 0) = [] := by
        show ([] : List V) = _
        rfl
      rw [e]
      exact tup_sq l_g0 z_g0_ok v_g0 H
    · refine ⟨t_g1, ⟨_, _, _, l_GIVEN, k_GIVEN, g_1, rfl⟩, fun H => ?_⟩
      have e : vstrs (gv 1) = [V.str "text"] := by
        show [V.str (S kT)] = _
        rw [w_kT]
      rw [e]
      exact tup_sq l_g1 z_g1_ok v_g1 H
    · refine ⟨t_g2, ⟨_, _, _, l_GIVEN, k_GIVEN, g_2, rfl⟩, fun H => ?_⟩
      have e : vstrs (gv 2) = [V.str "codes"] := by
        show [V.str (S kC)] = _
        rw [w_kC]
      rw [e]
      exact tup_sq l_g2 z_g2_ok v_g2 H
    · refine ⟨t_g3, ⟨_, _, _, l_GIVEN, k_GIVEN, g_3, rfl⟩, fun H => ?_⟩
      have e : vstrs (gv 3) = [] := by
        show ([] : List V) = _
        rfl
      rw [e]
      exact tup_sq l_g3 z_g3_ok v_g3 H
    · refine ⟨t_g4, ⟨_, _, _, l_GIVEN, k_GIVEN, g_4, rfl⟩, fun H => ?_⟩
      have e : vstrs (gv 4) = [] := by
        show ([] : List V) = _
        rfl
      rw [e]
      exact tup_sq l_g4 z_g4_ok v_g4 H
    · refine ⟨t_g5, ⟨_, _, _, l_GIVEN, k_GIVEN, g_5, rfl⟩, fun H => ?_⟩
      have e : vstrs (gv 5) = [V.str "state"] := by
        show [V.str (S kS)] = _
        rw [w_kS]
      rw [e]
      exact tup_sq l_g5 z_g5_ok v_g5 H
    · refine ⟨t_g6, ⟨_, _, _, l_GIVEN, k_GIVEN, g_6, rfl⟩, fun H => ?_⟩
      have e : vstrs (gv 6) = [V.str "state", V.str "value"] := by
        show [V.str (S kS), V.str (S kV)] = _
        rw [w_kS, w_kV]
      rw [e]
      exact tup_sq l_g6 z_g6_ok v_g6 H
    · refine ⟨t_g7, ⟨_, _, _, l_GIVEN, k_GIVEN, g_7, rfl⟩, fun H => ?_⟩
      have e : vstrs (gv 7) = [] := by
        show ([] : List V) = _
        rfl
      rw [e]
      exact tup_sq l_g7 z_g7_ok v_g7 H
    · refine ⟨t_g8, ⟨_, _, _, l_GIVEN, k_GIVEN, g_8, rfl⟩, fun H => ?_⟩
      have e : vstrs (gv 8) = [V.str "state", V.str "value"] := by
        show [V.str (S kS), V.str (S kV)] = _
        rw [w_kS, w_kV]
      rw [e]
      exact tup_sq l_g8 z_g8_ok v_g8 H
    · refine ⟨t_g9, ⟨_, _, _, l_GIVEN, k_GIVEN, g_9, rfl⟩, fun H => ?_⟩
      have e : vstrs (gv 9) = [V.str "state"] := by
        show [V.str (S kS)] = _
        rw [w_kS]
      rw [e]
      exact tup_sq l_g9 z_g9_ok v_g9 H
    · refine ⟨t_g10, ⟨_, _, _, l_GIVEN, k_GIVEN, g_10, rfl⟩, fun H => ?_⟩
      have e : vstrs (gv 10) = [V.str "state", V.str "row"] := by
        show [V.str (S kS), V.str (S kR)] = _
        rw [w_kS, w_kR]
      rw [e]
      exact tup_sq l_g10 z_g10_ok v_g10 H
    · refine ⟨t_g11, ⟨_, _, _, l_GIVEN, k_GIVEN, g_11, rfl⟩, fun H => ?_⟩
      have e : vstrs (gv 11) = [V.str "labels"] := by
        show [V.str (S kL)] = _
        rw [w_kL]
      rw [e]
      exact tup_sq l_g11 z_g11_ok v_g11 H
    · refine ⟨t_g12, ⟨_, _, _, l_GIVEN, k_GIVEN, g_12, rfl⟩, fun H => ?_⟩
      have e : vstrs (gv 12) = [V.str "labels"] := by
        show [V.str (S kL)] = _
        rw [w_kL]
      rw [e]
      exact tup_sq l_g12 z_g12_ok v_g12 H
    · refine ⟨t_g13, ⟨_, _, _, l_GIVEN, k_GIVEN, g_13, rfl⟩, fun H => ?_⟩
      have e : vstrs (gv 13) = [V.str "state", V.str "longest"] := by
        show [V.str (S kS), V.str (S kN)] = _
        rw [w_kS, w_kN]
      rw [e]
      exact tup_sq l_g13 z_g13_ok v_g13 H
    · refine ⟨t_g14, ⟨_, _, _, l_GIVEN, k_GIVEN, g_14, rfl⟩, fun H => ?_⟩
      have e : vstrs (gv 14) = [V.str "state", V.str "row"] := by
        show [V.str (S kS), V.str (S kR)] = _
        rw [w_kS, w_kR]
      rw [e]
      exact tup_sq l_g14 z_g14_ok v_g14 H
    · refine ⟨t_g15, ⟨_, _, _, l_GIVEN, k_GIVEN, g_15, rfl⟩, fun H => ?_⟩
      have e : vstrs (gv 15) = [V.str "state", V.str "row"] := by
        show [V.str (S kS), V.str (S kR)] = _
        rw [w_kS, w_kR]
      rw [e]
      exact tup_sq l_g15 z_g15_ok v_g15 H
    · refine ⟨t_g16, ⟨_, _, _, l_GIVEN, k_GIVEN, g_16, rfl⟩, fun H => ?_⟩
      have e : vstrs (gv 16) = [V.str "hole count", V.str "value count"] := by
        show [V.str (S kHC), V.str (S kVC)] = _
        rw [w_kHC, w_kVC]
      rw [e]
      exact tup_sq l_g16 z_g16_ok v_g16 H
    · refine ⟨t_g17, ⟨_, _, _, l_GIVEN, k_GIVEN, g_17, rfl⟩, fun H => ?_⟩
      have e : vstrs (gv 17) = [] := by
        show ([] : List V) = _
        rfl
      rw [e]
      exact tup_sq l_g17 z_g17_ok v_g17 H
    · refine ⟨t_g18, ⟨_, _, _, l_GIVEN, k_GIVEN, g_18, rfl⟩, fun H => ?_⟩
      have e : vstrs (gv 18) = [V.str "value"] := by
        show [V.str (S kV)] = _
        rw [w_kV]
      rw [e]
      exact tup_sq l_g18 z_g18_ok v_g18 H
    · refine ⟨t_g19, ⟨_, _, _, l_GIVEN, k_GIVEN, g_19, rfl⟩, fun H => ?_⟩
      have e : vstrs (gv 19) = [V.str "hole"] := by
        show [V.str (S kH)] = _
        rw [w_kH]
      rw [e]
      exact tup_sq l_g19 z_g19_ok v_g19 H
    · refine ⟨t_g20, ⟨_, _, _, l_GIVEN, k_GIVEN, g_20, rfl⟩, fun H => ?_⟩
      have e : vstrs (gv 20) = [] := by
        show ([] : List V) = _
        rfl
      rw [e]
      exact tup_sq l_g20 z_g20_ok v_g20 H
    · refine ⟨t_g21, ⟨_, _, _, l_GIVEN, k_GIVEN, g_21, rfl⟩, fun H => ?_⟩
      have e : vstrs (gv 21) = [V.str "state"] := by
        show [V.str (S kS)] = _
        rw [w_kS]
      rw [e]
      exact tup_sq l_g21 z_g21_ok v_g21 H
  have hLists : ∀ H, SqT K H aL (vstrs gls) := fun H => by
    have e : vstrs gls = [V.str "text", V.str "codes", V.str "row", V.str "labels"] := by
      show [V.str (S kT), V.str (S kC), V.str (S kR), V.str (S kL)] = _
      rw [w_kT, w_kC, w_kR, w_kL]
    rw [e]
    exact tup_sq l_LISTS z_LISTS_ok v_LISTS H
  have TP : TxtP K mg aG aL PyVbenaf.shape gv gls := ⟨gm b_len, gm n_GIVEN, gm n_LISTS, hLists, hGiven, fun p n k h => gv_few p n k h, gv_fits⟩
  have R_NotBytes : RC K CR CB := ⟨⟨e_NotBytes.ga, e_NotBytes.gg, e_NotBytes.exC, e_NotBytes.hd⟩, e_NotBytes.nN, exm_own e_Refusal.exC ic_Refusal e_Refusal.tyC sb_NotBytes⟩
  have R_OutOfRange : RC K CR CO := ⟨⟨e_OutOfRange.ga, e_OutOfRange.gg, e_OutOfRange.exC, e_OutOfRange.hd⟩, e_OutOfRange.nN, exm_own e_Refusal.exC ic_Refusal e_Refusal.tyC sb_OutOfRange⟩
  have R_BadList : RC K CR CL := ⟨⟨e_BadList.ga, e_BadList.gg, e_BadList.exC, e_BadList.hd⟩, e_BadList.nN, exm_own e_Refusal.exC ic_Refusal e_Refusal.tyC sb_BadList⟩
  have R_NotThere : RC K CR CN := ⟨⟨e_NotThere.ga, e_NotThere.gg, e_NotThere.exC, e_NotThere.hd⟩, e_NotThere.nN, exm_own e_Refusal.exC ic_Refusal e_Refusal.tyC sb_NotThere⟩
  have R_NotAsked : RC K CR CNA := ⟨⟨e_NotAsked.ga, e_NotAsked.gg, e_NotAsked.exC, e_NotAsked.hd⟩, e_NotAsked.nN, exm_own e_Refusal.exC ic_Refusal e_Refusal.tyC sb_NotAsked⟩
  have R_HoleNotched : RC K CR CHN := ⟨⟨e_HoleNotched.ga, e_HoleNotched.gg, e_HoleNotched.exC, e_HoleNotched.hd⟩, e_HoleNotched.nN, exm_own e_Refusal.exC ic_Refusal e_Refusal.tyC sb_HoleNotched⟩
  have R_WithoutWay : RC K CR CWW := ⟨⟨e_WithoutWay.ga, e_WithoutWay.gg, e_WithoutWay.exC, e_WithoutWay.hd⟩, e_WithoutWay.nN, exm_own e_Refusal.exC ic_Refusal e_Refusal.tyC sb_WithoutWay⟩
  have R_TooManyTables : RC K CR CM := ⟨⟨e_TooManyTables.ga, e_TooManyTables.gg, e_TooManyTables.exC, e_TooManyTables.hd⟩, e_TooManyTables.nN, exm_own e_Refusal.exC ic_Refusal e_Refusal.tyC sb_TooManyTables⟩
  have R_Fault : RC K CR CFa := ⟨⟨e_Fault.ga, e_Fault.gg, e_Fault.exC, e_Fault.hd⟩, e_Fault.nN, exm_own e_Refusal.exC ic_Refusal e_Refusal.tyC sb_Fault⟩
  have Q_Refusal_init : ClsFn K mg "Refusal" "__init__" CR f_Refusal_init := ⟨gm n_Refusal, qa_Refusal, qr_Refusal, qf_Refusal, F_Refusal_init.kp⟩
  have Q_Field_init : ClsFn K mg "Field" "__init__" CF f_Field_init := ⟨gm n_Field, qa_Field, qr_Field, qf_Field, F_Field_init.kp⟩
  have bt : ∀ (s : Shared) (us : List Value), us.length = (["calls"] : List Str).length → BindsTo s fd_answers ⟨us, []⟩ ((["calls"] : List Str).zip us) := by
    obtain ⟨_, _, _, _, _, _, _, _, _, e, _, _⟩ := F_answers.ex
    subst e
    exact fun s us hu => match us, hu with | [_], _ => .of_eq rfl
  refine ⟨fd_answers, bt, fun base _ _ => ?_⟩
  have G_Field_asked_from : FnOk P w K mg base CX0 1 f_Field_asked_from fd_Field_asked_from ["self", "own"] (spF_asked_from CF) := okF_asked_from F_Field_asked_from TF
  have M_Field_asked_from : Met P w K mg base CX0 1 CF "asked_from" (spF_asked_from CF) := ⟨_, _, _, cls_Field, ⟨at_Field_asked_from, fn_Field_asked_from, F_Field_asked_from.kp⟩, G_Field_asked_from, b_Field_asked_from⟩
  have G_Field_asked : FnOk P w K mg base CX0 2 f_Field_asked fd_Field_asked ["self", "state"] (spAsked CF) := ok_asked F_Field_asked TF M_Field_asked_from
  have M_Field_asked : Met P w K mg base CX0 2 CF "asked" (spAsked CF) := ⟨_, _, _, cls_Field, ⟨at_Field_asked, fn_Field_asked, F_Field_asked.kp⟩, G_Field_asked, b_Field_asked⟩
  have G_Field_state_count : FnOk P w K mg base CX0 1 f_Field_state_count fd_Field_state_count ["self"] (spF_state_count CF) := okF_state_count F_Field_state_count TF
  have M_Field_state_count : Met P w K mg base CX0 1 CF "state_count" (spF_state_count CF) := ⟨_, _, _, cls_Field, ⟨at_Field_state_count, fn_Field_state_count, F_Field_state_count.kp⟩, G_Field_state_count, b_Field_state_count⟩
  have G_Field_valued_count : FnOk P w K mg base CX0 1 f_Field_valued_count fd_Field_valued_count ["self"] (spF_valued_count CF) := okF_valued_count F_Field_valued_count TF
  have M_Field_valued_count : Met P w K mg base CX0 1 CF "valued_count" (spF_valued_count CF) := ⟨_, _, _, cls_Field, ⟨at_Field_valued_count, fn_Field_valued_count, F_Field_valued_count.kp⟩, G_Field_valued_count, b_Field_valued_count⟩
  have G_more_notched : FnOk P w K mg base CX0 1 f_more_notched fd_more_notched ["state", "count"] sp_more := ok_more F_more_notched TF
  have C_more_notched : Cal P w K mg base CX0 1 "more_notched" sp_more := ⟨_, _, _, G_more_notched, gm n_more_notched, F_more_notched.kp, b_more_notched⟩
  have G_Field_ways : FnOk P w K mg base CX0 1 f_Field_ways fd_Field_ways ["self", "state", "value"] (spF_ways CF) := okF_ways F_Field_ways TF
  have M_Field_ways : Met P w K mg base CX0 1 CF "ways" (spF_ways CF) := ⟨_, _, _, cls_Field, ⟨at_Field_ways, fn_Field_ways, F_Field_ways.kp⟩, G_Field_ways, b_Field_ways⟩
  have G_Field_best_ways : FnOk P w K mg base CX0 1 f_Field_best_ways fd_Field_best_ways ["self", "state"] (spF_best_ways CF) := okF_best_ways F_Field_best_ways TF
  have M_Field_best_ways : Met P w K mg base CX0 1 CF "best_ways" (spF_best_ways CF) := ⟨_, _, _, cls_Field, ⟨at_Field_best_ways, fn_Field_best_ways, F_Field_best_ways.kp⟩, G_Field_best_ways, b_Field_best_ways⟩
  have G_Field_left : FnOk P w K mg base CX0 1 f_Field_left fd_Field_left ["self", "state", "value"] (spF_left CF) := okF_left F_Field_left TF
  have M_Field_left : Met P w K mg base CX0 1 CF "left" (spF_left CF) := ⟨_, _, _, cls_Field, ⟨at_Field_left, fn_Field_left, F_Field_left.kp⟩, G_Field_left, b_Field_left⟩
  have G_Field_least_left : FnOk P w K mg base CX0 3 f_Field_least_left fd_Field_least_left ["self", "state"] (spF_least_left CF) := okF_least_left F_Field_least_left TF M_Field_asked M_Field_left
  have M_Field_least_left : Met P w K mg base CX0 3 CF "least_left" (spF_least_left CF) := ⟨_, _, _, cls_Field, ⟨at_Field_least_left, fn_Field_least_left, F_Field_least_left.kp⟩, G_Field_least_left, b_Field_least_left⟩
  have G_Field_worst_value : FnOk P w K mg base CX0 3 f_Field_worst_value fd_Field_worst_value ["self", "state"] (spF_worst_value CF) := okF_worst_value F_Field_worst_value TF M_Field_asked M_Field_left
  have M_Field_worst_value : Met P w K mg base CX0 3 CF "worst_value" (spF_worst_value CF) := ⟨_, _, _, cls_Field, ⟨at_Field_worst_value, fn_Field_worst_value, F_Field_worst_value.kp⟩, G_Field_worst_value, b_Field_worst_value⟩
  have G_Field_worst_row : FnOk P w K mg base CX0 4 f_Field_worst_row fd_Field_worst_row ["self", "state"] (spF_worst_row CF) := okF_worst_row F_Field_worst_row TF M_Field_worst_value
  have M_Field_worst_row : Met P w K mg base CX0 4 CF "worst_row" (spF_worst_row CF) := ⟨_, _, _, cls_Field, ⟨at_Field_worst_row, fn_Field_worst_row, F_Field_worst_row.kp⟩, G_Field_worst_row, b_Field_worst_row⟩
  have G_Field_behind : FnOk P w K mg base CX0 3 f_Field_behind fd_Field_behind ["self", "state", "value"] (spF_behind CF) := okF_behind F_Field_behind TF M_Field_asked
  have M_Field_behind : Met P w K mg base CX0 3 CF "behind" (spF_behind CF) := ⟨_, _, _, cls_Field, ⟨at_Field_behind, fn_Field_behind, F_Field_behind.kp⟩, G_Field_behind, b_Field_behind⟩
  have G_Field_carried : FnOk P w K mg base CX0 4 f_Field_carried fd_Field_carried ["self", "state", "row"] (spF_carried K CF) := okF_carried F_Field_carried TF M_Field_behind
  have M_Field_carried : Met P w K mg base CX0 4 CF "carried" (spF_carried K CF) := ⟨_, _, _, cls_Field, ⟨at_Field_carried, fn_Field_carried, F_Field_carried.kp⟩, G_Field_carried, b_Field_carried⟩
  have G_Field_before : FnOk P w K mg base CX0 1 f_Field_before fd_Field_before ["self", "state"] (spF_before CF) := okF_before F_Field_before TF
  have M_Field_before : Met P w K mg base CX0 1 CF "before" (spF_before CF) := ⟨_, _, _, cls_Field, ⟨at_Field_before, fn_Field_before, F_Field_before.kp⟩, G_Field_before, b_Field_before⟩
  have G_notch_count : FnOk P w K mg base CX0 1 f_notch_count fd_notch_count ["state"] sp_notch_count := ok_notch_count F_notch_count 
  have C_notch_count : Cal P w K mg base CX0 1 "notch_count" sp_notch_count := ⟨_, _, _, G_notch_count, gm n_notch_count, F_notch_count.kp, b_notch_count⟩
  have G_Field_settle : FnOk P w K mg base CX0 4 f_Field_settle fd_Field_settle ["self", "state"] (spF_settle CF) := okF_settle F_Field_settle TF M_Field_best_ways M_Field_least_left
  have M_Field_settle : Met P w K mg base CX0 4 CF "settle" (spF_settle CF) := ⟨_, _, _, cls_Field, ⟨at_Field_settle, fn_Field_settle, F_Field_settle.kp⟩, G_Field_settle, b_Field_settle⟩
  have G_Field_init : FnOk P w K mg base CX0 5 f_Field_init fd_Field_init ["self", "holes", "names", "lets", "table"] (spF_init K CF) := okF_init F_Field_init TF C_more_notched M_Field_settle
  have K_Field : Mak P w K mg base CX0 5 "Field" CF (spF_init K CF) := ⟨_, _, _, ⟨mk_Field, i_Field, fn_Field_init, kc_Field⟩, G_Field_init, gm n_Field, b_Field_init⟩
  have G_Refusal_init : FnOk P w K mg base CX0 1 f_Refusal_init fd_Refusal_init ["self", "number"] (spE1 K fNum) := okE_Refusal F_Refusal_init 
  have G_NotBytes_init : FnOk P w K mg base CX0 2 f_NotBytes_init fd_NotBytes_init ["self"] (spE K (-1)) := okE_NotBytes F_NotBytes_init Q_Refusal_init G_Refusal_init b_Refusal_init
  have E_NotBytes : Er P w K mg base 2 "NotBytes" CB (spE K (-1)) := ⟨_, _, _, e_NotBytes, G_NotBytes_init, b_NotBytes_init, gm n_NotBytes⟩
  have G_OutOfRange_init : FnOk P w K mg base CX0 2 f_OutOfRange_init fd_OutOfRange_init ["self"] (spE K (-3)) := okE_OutOfRange F_OutOfRange_init Q_Refusal_init G_Refusal_init b_Refusal_init
  have E_OutOfRange : Er P w K mg base 2 "OutOfRange" CO (spE K (-3)) := ⟨_, _, _, e_OutOfRange, G_OutOfRange_init, b_OutOfRange_init, gm n_OutOfRange⟩
  have G_BadList_init : FnOk P w K mg base CX0 2 f_BadList_init fd_BadList_init ["self"] (spE K (-4)) := okE_BadList F_BadList_init Q_Refusal_init G_Refusal_init b_Refusal_init
  have E_BadList : Er P w K mg base 2 "BadList" CL (spE K (-4)) := ⟨_, _, _, e_BadList, G_BadList_init, b_BadList_init, gm n_BadList⟩
  have G_NotThere_init : FnOk P w K mg base CX0 2 f_NotThere_init fd_NotThere_init ["self"] (spE K (-5)) := okE_NotThere F_NotThere_init Q_Refusal_init G_Refusal_init b_Refusal_init
  have E_NotThere : Er P w K mg base 2 "NotThere" CN (spE K (-5)) := ⟨_, _, _, e_NotThere, G_NotThere_init, b_NotThere_init, gm n_NotThere⟩
  have G_NotAsked_init : FnOk P w K mg base CX0 2 f_NotAsked_init fd_NotAsked_init ["self"] (spE K (-6)) := okE_NotAsked F_NotAsked_init Q_Refusal_init G_Refusal_init b_Refusal_init
  have E_NotAsked : Er P w K mg base 2 "NotAsked" CNA (spE K (-6)) := ⟨_, _, _, e_NotAsked, G_NotAsked_init, b_NotAsked_init, gm n_NotAsked⟩
  have G_HoleNotched_init : FnOk P w K mg base CX0 2 f_HoleNotched_init fd_HoleNotched_init ["self"] (spE K (-6)) := okE_HoleNotched F_HoleNotched_init Q_Refusal_init G_Refusal_init b_Refusal_init
  have E_HoleNotched : Er P w K mg base 2 "HoleNotched" CHN (spE K (-6)) := ⟨_, _, _, e_HoleNotched, G_HoleNotched_init, b_HoleNotched_init, gm n_HoleNotched⟩
  have G_WithoutWay_init : FnOk P w K mg base CX0 2 f_WithoutWay_init fd_WithoutWay_init ["self"] (spE K (-7)) := okE_WithoutWay F_WithoutWay_init Q_Refusal_init G_Refusal_init b_Refusal_init
  have E_WithoutWay : Er P w K mg base 2 "WithoutWay" CWW (spE K (-7)) := ⟨_, _, _, e_WithoutWay, G_WithoutWay_init, b_WithoutWay_init, gm n_WithoutWay⟩
  have G_TooManyTables_init : FnOk P w K mg base CX0 2 f_TooManyTables_init fd_TooManyTables_init ["self"] (spE K (-9)) := okE_TooManyTables F_TooManyTables_init Q_Refusal_init G_Refusal_init b_Refusal_init
  have E_TooManyTables : Er P w K mg base 2 "TooManyTables" CM (spE K (-9)) := ⟨_, _, _, e_TooManyTables, G_TooManyTables_init, b_TooManyTables_init, gm n_TooManyTables⟩
  have G_Fault_init : FnOk P w K mg base CX0 2 f_Fault_init fd_Fault_init ["self", "place"] (spE1 K fFault) := okE_Fault F_Fault_init Q_Refusal_init G_Refusal_init b_Refusal_init
  have E_Fault : Er P w K mg base 2 "Fault" CFa (spE1 K fFault) := ⟨_, _, _, e_Fault, G_Fault_init, b_Fault_init, gm n_Fault⟩
  have G_sign_of : FnOk P w K mg base CX0 1 f_sign_of fd_sign_of ["code"] sp_sign_of := ok_sign_of F_sign_of TTx
  have C_sign_of : Cal P w K mg base CX0 1 "sign_of" sp_sign_of := ⟨_, _, _, G_sign_of, gm n_sign_of, F_sign_of.kp, b_sign_of⟩
  have G_words_of : FnOk P w K mg base CX0 1 f_words_of fd_words_of ["text"] sp_words_of := ok_words_of F_words_of TTx
  have C_words_of : Cal P w K mg base CX0 1 "words_of" sp_words_of := ⟨_, _, _, G_words_of, gm n_words_of, F_words_of.kp, b_words_of⟩
  have G_Words_ended : FnOk P w K mg base CX0 1 f_Words_ended fd_Words_ended ["self"] (spW_ended CW) := okW_ended F_Words_ended TW
  have M_Words_ended : Met P w K mg base CX0 1 CW "ended" (spW_ended CW) := ⟨_, _, _, cls_Words, ⟨at_Words_ended, fn_Words_ended, F_Words_ended.kp⟩, G_Words_ended, b_Words_ended⟩
  have G_Words_word : FnOk P w K mg base CX0 2 f_Words_word fd_Words_word ["self"] (spW_word CW) := okW_word F_Words_word TW M_Words_ended
  have M_Words_word : Met P w K mg base CX0 2 CW "word" (spW_word CW) := ⟨_, _, _, cls_Words, ⟨at_Words_word, fn_Words_word, F_Words_word.kp⟩, G_Words_word, b_Words_word⟩
  have G_Words_take : FnOk P w K mg base (L2.CX P w) 4 f_Words_take fd_Words_take ["self", "may_stand"] (spW_take CW CFa) := okW_take F_Words_take TW M_Words_ended M_Words_word E_Fault
  have M_Words_take : Met P w K mg base (L2.CX P w) 4 CW "take" (spW_take CW CFa) := ⟨_, _, _, cls_Words, ⟨at_Words_take, fn_Words_take, F_Words_take.kp⟩, G_Words_take, b_Words_take⟩
  have G_may_be_name : FnOk P w K mg base CX0 1 f_may_be_name fd_may_be_name ["word"] sp_name := ok_may_be_name F_may_be_name TR
  have C_may_be_name : Cal P w K mg base CX0 1 "may_be_name" sp_name := ⟨_, _, _, G_may_be_name, gm n_may_be_name, F_may_be_name.kp, b_may_be_name⟩
  have G_take_number : FnOk P w K mg base (L2.CX P w) 5 f_take_number fd_take_number ["words", "least", "greatest"] (sp_take_number CW CFa) := ok_take_number F_take_number TR M_Words_word M_Words_take
  have C_take_number : Cal P w K mg base (L2.CX P w) 5 "take_number" (sp_take_number CW CFa) := ⟨_, _, _, G_take_number, gm n_take_number, F_take_number.kp, b_take_number⟩
  have G_take_value : FnOk P w K mg base (L2.CX P w) 5 f_take_value fd_take_value ["words", "names"] (sp_take_value CW CFa) := ok_take_value F_take_value M_Words_word M_Words_take
  have C_take_value : Cal P w K mg base (L2.CX P w) 5 "take_value" (sp_take_value CW CFa) := ⟨_, _, _, G_take_value, gm n_take_value, F_take_value.kp, b_take_value⟩
  have G_read_holes : FnOk P w K mg base (L2.CX P w) 6 f_read_holes fd_read_holes ["words"] (sp_read_holes CW CFa) := ok_read_holes F_read_holes TR M_Words_word M_Words_take C_take_number
  have C_read_holes : Cal P w K mg base (L2.CX P w) 6 "read_holes" (sp_read_holes CW CFa) := ⟨_, _, _, G_read_holes, gm n_read_holes, F_read_holes.kp, b_read_holes⟩
  have G_read_names : FnOk P w K mg base (L2.CX P w) 5 f_read_names fd_read_names ["words"] (sp_read_names CW CFa) := ok_read_names F_read_names TR M_Words_ended M_Words_word M_Words_take C_may_be_name
  have C_read_names : Cal P w K mg base (L2.CX P w) 5 "read_names" (sp_read_names CW CFa) := ⟨_, _, _, G_read_names, gm n_read_names, F_read_names.kp, b_read_names⟩
  have G_read_let : FnOk P w K mg base (L2.CX P w) 6 f_read_let fd_read_let ["words", "names", "lets"] (sp_read_let CW CFa) := ok_read_let F_read_let M_Words_word M_Words_take C_take_value
  have C_read_let : Cal P w K mg base (L2.CX P w) 6 "read_let" (sp_read_let CW CFa) := ⟨_, _, _, G_read_let, gm n_read_let, F_read_let.kp, b_read_let⟩
  have G_read_at : FnOk P w K mg base (L2.CX P w) 6 f_read_at fd_read_at ["words", "holes", "names", "table"] (sp_read_at CW CFa) := ok_read_at F_read_at TR M_Words_word M_Words_take C_take_number C_take_value
  have C_read_at : Cal P w K mg base (L2.CX P w) 6 "read_at" (sp_read_at CW CFa) := ⟨_, _, _, G_read_at, gm n_read_at, F_read_at.kp, b_read_at⟩
  have G_Words_init : FnOk P w K mg base CX0 2 f_Words_init fd_Words_init ["self", "codes"] (spW_init CW) := okW_init F_Words_init TW C_words_of C_sign_of
  have K_Words : Mak P w K mg base CX0 2 "Words" CW (spW_init CW) := ⟨_, _, _, ⟨mk_Words, i_Words, fn_Words_init, kc_Words⟩, G_Words_init, gm n_Words, b_Words_init⟩
  have G_read_field : FnOk P w K mg base (L2.CX P w) 7 f_read_field fd_read_field ["codes"] (sp_read_field CF CFa) := ok_read_field F_read_field TR K_Words K_Field M_Words_word M_Words_ended M_Words_take C_read_holes C_read_names C_read_let C_read_at
  have C_read_field : Cal P w K mg base (L2.CX P w) 7 "read_field" (sp_read_field CF CFa) := ⟨_, _, _, G_read_field, gm n_read_field, F_read_field.kp, b_read_field⟩
  have G_state_line : FnOk P w K mg base CX0 1 f_state_line fd_state_line ["field", "state"] (sp_state_line CF) := ok_state_line F_state_line TR TF
  have C_state_line : Cal P w K mg base CX0 1 "state_line" (sp_state_line CF) := ⟨_, _, _, G_state_line, gm n_state_line, F_state_line.kp, b_state_line⟩
  have G_one_text : FnOk P w K mg base CX0 2 f_one_text fd_one_text ["field"] (sp_one_text CF) := ok_one_text F_one_text TO TF M_Field_state_count C_state_line
  have C_one_text : Cal P w K mg base CX0 2 "one_text" (sp_one_text CF) := ⟨_, _, _, G_one_text, gm n_one_text, F_one_text.kp, b_one_text⟩
  have G_first_field : FnOk P w K mg base CX0 7 f_first_field fd_first_field [] (sp_first_field CF) := ok_first_field F_first_field TR K_Field
  have C_first_field : Cal P w K mg base CX0 7 "first_field" (sp_first_field CF) := ⟨_, _, _, G_first_field, gm n_first_field, F_first_field.kp, b_first_field⟩
  have G_rank_number : FnOk P w K mg base CX0 1 f_rank_number fd_rank_number ["rank"] sp_rank_number := ok_rank_number F_rank_number TK
  have C_rank_number : Cal P w K mg base CX0 1 "rank_number" sp_rank_number := ⟨_, _, _, G_rank_number, gm n_rank_number, F_rank_number.kp, b_rank_number⟩
  have G_counted : FnOk P w K mg base CX0 1 f_counted fd_counted ["numbers"] sp_counted := ok_counted F_counted TK
  have C_counted : Cal P w K mg base CX0 1 "counted" sp_counted := ⟨_, _, _, G_counted, gm n_counted, F_counted.kp, b_counted⟩
  have G_checked_range : FnOk P w K mg base (L2.CX P w) 4 f_checked_range fd_checked_range ["number", "least", "greatest"] (sp_checked_range CO) := ok_checked_range F_checked_range TK E_OutOfRange
  have C_checked_range : Cal P w K mg base (L2.CX P w) 4 "checked_range" (sp_checked_range CO) := ⟨_, _, _, G_checked_range, gm n_checked_range, F_checked_range.kp, b_checked_range⟩
  have G_checked_number : FnOk P w K mg base (L2.CX P w) 5 f_checked_number fd_checked_number ["number", "greatest", "count"] (sp_checked_number CO CN) := ok_checked_number F_checked_number TK C_checked_range E_NotThere
  have C_checked_number : Cal P w K mg base (L2.CX P w) 5 "checked_number" (sp_checked_number CO CN) := ⟨_, _, _, G_checked_number, gm n_checked_number, F_checked_number.kp, b_checked_number⟩
  have G_checked_bytes : FnOk P w K mg base (L2.CX P w) 4 f_checked_bytes fd_checked_bytes ["codes"] (sp_checked_bytes CB) := ok_checked_bytes F_checked_bytes TK E_NotBytes
  have C_checked_bytes : Cal P w K mg base (L2.CX P w) 4 "checked_bytes" (sp_checked_bytes CB) := ⟨_, _, _, G_checked_bytes, gm n_checked_bytes, F_checked_bytes.kp, b_checked_bytes⟩
  have G_checked_row : FnOk P w K mg base (L2.CX P w) 4 f_checked_row fd_checked_row ["row", "count"] (sp_checked_row CL) := ok_checked_row F_checked_row TK E_BadList
  have C_checked_row : Cal P w K mg base (L2.CX P w) 4 "checked_row" (sp_checked_row CL) := ⟨_, _, _, G_checked_row, gm n_checked_row, F_checked_row.kp, b_checked_row⟩
  have G_checked_labels : FnOk P w K mg base (L2.CX P w) 4 f_checked_labels fd_checked_labels ["labels", "count"] (sp_checked_labels CL) := ok_checked_labels F_checked_labels TK E_BadList
  have C_checked_labels : Cal P w K mg base (L2.CX P w) 4 "checked_labels" (sp_checked_labels CL) := ⟨_, _, _, G_checked_labels, gm n_checked_labels, F_checked_labels.kp, b_checked_labels⟩
  have G_parted : FnOk P w K mg base CX0 1 f_parted fd_parted ["calls"] (sp_parted K PyVbenaf.shape gv) := ok_parted F_parted TP
  have C_parted : Cal P w K mg base CX0 1 "parted" (sp_parted K PyVbenaf.shape gv) := ⟨_, _, _, G_parted, gm n_parted, F_parted.kp, b_parted⟩
  have G_Card_init : FnOk P w K mg base CX0 1 f_Card_init fd_Card_init ["self", "field"] (spC_init CC) := okC_init F_Card_init TD
  have K_Card : Mak P w K mg base CX0 1 "Card" CC (spC_init CC) := ⟨_, _, _, ⟨mk_Card, i_Card, fn_Card_init, kc_Card⟩, G_Card_init, gm n_Card, b_Card_init⟩
  have G_Card_change : FnOk P w K mg base (L2.CX P w) 4 f_Card_change fd_Card_change ["self", "value"] (spC_change CC CF CNA CWW) := okC_change F_Card_change TD M_Field_asked E_NotAsked E_WithoutWay
  have M_Card_change : Met P w K mg base (L2.CX P w) 4 CC "change" (spC_change CC CF CNA CWW) := ⟨_, _, _, cls_Card, ⟨at_Card_change, fn_Card_change, F_Card_change.kp⟩, G_Card_change, b_Card_change⟩
  have G_Card_notch : FnOk P w K mg base (L2.CX P w) 4 f_Card_notch fd_Card_notch ["self", "hole"] (spC_notch CC CHN) := okC_notch F_Card_notch TD E_HoleNotched
  have M_Card_notch : Met P w K mg base (L2.CX P w) 4 CC "notch" (spC_notch CC CHN) := ⟨_, _, _, cls_Card, ⟨at_Card_notch, fn_Card_notch, F_Card_notch.kp⟩, G_Card_notch, b_Card_notch⟩
  have G_Desk_renew : FnOk P w K mg base CX0 3 f_Desk_renew fd_Desk_renew ["self"] (spD_renew CD CC) := okD_renew F_Desk_renew TD K_Card
  have M_Desk_renew : Met P w K mg base CX0 3 CD "renew" (spD_renew CD CC) := ⟨_, _, _, cls_Desk, ⟨at_Desk_renew, fn_Desk_renew, F_Desk_renew.kp⟩, G_Desk_renew, b_Desk_renew⟩
  have G_Desk_lay : FnOk P w K mg base CX0 4 f_Desk_lay fd_Desk_lay ["self", "field"] (spD_lay CD CC) := okD_lay F_Desk_lay TD M_Desk_renew
  have M_Desk_lay : Met P w K mg base CX0 4 CD "lay" (spD_lay CD CC) := ⟨_, _, _, cls_Desk, ⟨at_Desk_lay, fn_Desk_lay, F_Desk_lay.kp⟩, G_Desk_lay, b_Desk_lay⟩
  have G_Desk_init : FnOk P w K mg base CX0 8 f_Desk_init fd_Desk_init ["self"] (spD_init CD CC CF) := okD_init F_Desk_init TD K_Card C_first_field
  have K_Desk : Mak P w K mg base CX0 8 "Desk" CD (spD_init CD CC CF) := ⟨_, _, _, ⟨mk_Desk, i_Desk, fn_Desk_init, kc_Desk⟩, G_Desk_init, gm n_Desk, b_Desk_init⟩
  have G_call_ways : FnOk P w K mg base (L2.CX P w) 9 f_call_ways fd_call_ways ["desk", "given"] (sp_doer K CD CC CF CR okSV dWays) := ok_call_ways F_call_ways TC M_Field_ways C_counted
  have W_call_ways : Doer P w K mg base 9 f_call_ways (sp_doer K CD CC CF CR okSV dWays) := ⟨_, _, G_call_ways, F_call_ways.kp, b_call_ways⟩
  have G_call_told : FnOk P w K mg base (L2.CX P w) 9 f_call_told fd_call_told ["desk", "given"] (sp_doer K CD CC CF CR okNo dTold) := ok_call_told F_call_told TC M_Field_valued_count
  have W_call_told : Doer P w K mg base 9 f_call_told (sp_doer K CD CC CF CR okNo dTold) := ⟨_, _, G_call_told, F_call_told.kp, b_call_told⟩
  have G_call_clear : FnOk P w K mg base (L2.CX P w) 9 f_call_clear fd_call_clear ["desk", "given"] (sp_doer K CD CC CF CR okNo dClear) := ok_call_clear F_call_clear M_Desk_lay C_first_field
  have W_call_clear : Doer P w K mg base 9 f_call_clear (sp_doer K CD CC CF CR okNo dClear) := ⟨_, _, G_call_clear, F_call_clear.kp, b_call_clear⟩
  have G_call_worst : FnOk P w K mg base (L2.CX P w) 9 f_call_worst fd_call_worst ["desk", "given"] (sp_doer K CD CC CF CR okS dWorst) := ok_call_worst F_call_worst TC M_Field_worst_row C_counted
  have W_call_worst : Doer P w K mg base 9 f_call_worst (sp_doer K CD CC CF CR okS dWorst) := ⟨_, _, G_call_worst, F_call_worst.kp, b_call_worst⟩
  have G_call_field : FnOk P w K mg base (L2.CX P w) 9 f_call_field fd_call_field ["desk", "given"] (sp_doer K CD CC CF CR okF dField) := ok_call_field F_call_field TC M_Desk_lay M_Field_valued_count
  have W_call_field : Doer P w K mg base 9 f_call_field (sp_doer K CD CC CF CR okF dField) := ⟨_, _, G_call_field, F_call_field.kp, b_call_field⟩
  have G_call_ranks : FnOk P w K mg base (L2.CX P w) 9 f_call_ranks fd_call_ranks ["desk", "given"] (sp_doer K CD CC CF CR okNo dRanks) := ok_call_ranks F_call_ranks TC C_rank_number C_counted
  have W_call_ranks : Doer P w K mg base 9 f_call_ranks (sp_doer K CD CC CF CR okNo dRanks) := ⟨_, _, G_call_ranks, F_call_ranks.kp, b_call_ranks⟩
  have G_value_number : FnOk P w K mg base CX0 1 f_value_number fd_value_number ["value"] sp_value_number := ok_value_number F_value_number 
  have C_value_number : Cal P w K mg base CX0 1 "value_number" sp_value_number := ⟨_, _, _, G_value_number, gm n_value_number, F_value_number.kp, b_value_number⟩
  have G_call_value : FnOk P w K mg base (L2.CX P w) 9 f_call_value fd_call_value ["desk", "given"] (sp_doer K CD CC CF CR okS dValue) := ok_call_value F_call_value TC M_Field_asked C_counted C_value_number
  have W_call_value : Doer P w K mg base 9 f_call_value (sp_doer K CD CC CF CR okS dValue) := ⟨_, _, G_call_value, F_call_value.kp, b_call_value⟩
  have G_call_go : FnOk P w K mg base (L2.CX P w) 9 f_call_go fd_call_go ["desk", "given"] (sp_doer K CD CC CF CR okSV dGo) := ok_call_go F_call_go TC C_rank_number C_notch_count
  have W_call_go : Doer P w K mg base 9 f_call_go (sp_doer K CD CC CF CR okSV dGo) := ⟨_, _, G_call_go, F_call_go.kp, b_call_go⟩
  have G_call_carry : FnOk P w K mg base (L2.CX P w) 9 f_call_carry fd_call_carry ["desk", "given"] (sp_doer K CD CC CF CR okSR dCarry) := ok_call_carry F_call_carry TC M_Field_carried C_counted
  have W_call_carry : Doer P w K mg base 9 f_call_carry (sp_doer K CD CC CF CR okSR dCarry) := ⟨_, _, G_call_carry, F_call_carry.kp, b_call_carry⟩
  have G_call_look : FnOk P w K mg base (L2.CX P w) 9 f_call_look fd_call_look ["desk", "given"] (sp_doer K CD CC CF CR okB dLook) := ok_call_look F_call_look (gm n_Fault) R_Fault.xf e_Fault.nP (exm_own e_Fault.exC ic_Fault e_Fault.tyC sb_FF) C_read_field
  have W_call_look : Doer P w K mg base 9 f_call_look (sp_doer K CD CC CF CR okB dLook) := ⟨_, _, G_call_look, F_call_look.kp, b_call_look⟩
  have G_call_text : FnOk P w K mg base (L2.CX P w) 9 f_call_text fd_call_text ["desk", "given"] (sp_doer K CD CC CF CR okNo dText) := ok_call_text F_call_text TC C_one_text
  have W_call_text : Doer P w K mg base 9 f_call_text (sp_doer K CD CC CF CR okNo dText) := ⟨_, _, G_call_text, F_call_text.kp, b_call_text⟩
  have G_checked : FnOk P w K mg base (L2.CX P w) 8 f_checked fd_checked ["field", "kind", "thing"] (sp_checked K CF CR okT1 chk1) := ok_checked F_checked TK2 R_OutOfRange R_NotThere R_NotBytes R_BadList R_Fault M_Field_state_count C_checked_range C_checked_number C_checked_bytes C_checked_row C_checked_labels C_read_field
  have C_checked : Cal P w K mg base (L2.CX P w) 8 "checked" (sp_checked K CF CR okT1 chk1) := ⟨_, _, _, G_checked, gm n_checked, F_checked.kp, b_checked⟩
  have G_is_borne : FnOk P w K mg base CX0 3 f_is_borne fd_is_borne ["field", "labels", "state"] (sp_is_borne CF) := ok_is_borne F_is_borne TL M_Field_asked M_Field_ways
  have C_is_borne : Cal P w K mg base CX0 3 "is_borne" (sp_is_borne CF) := ⟨_, _, _, G_is_borne, gm n_is_borne, F_is_borne.kp, b_is_borne⟩
  have G_is_never_passed : FnOk P w K mg base CX0 3 f_is_never_passed fd_is_never_passed ["field", "labels", "state"] (sp_is_never_passed CF) := ok_is_never_passed F_is_never_passed TL M_Field_asked M_Field_ways
  have C_is_never_passed : Cal P w K mg base CX0 3 "is_never_passed" (sp_is_never_passed CF) := ⟨_, _, _, G_is_never_passed, gm n_is_never_passed, F_is_never_passed.kp, b_is_never_passed⟩
  have G_states_not_borne : FnOk P w K mg base CX0 4 f_states_not_borne fd_states_not_borne ["field", "labels"] (sp_not_borne CF) := ok_states_not_borne F_states_not_borne TL M_Field_state_count C_is_borne
  have C_states_not_borne : Cal P w K mg base CX0 4 "states_not_borne" (sp_not_borne CF) := ⟨_, _, _, G_states_not_borne, gm n_states_not_borne, F_states_not_borne.kp, b_states_not_borne⟩
  have G_states_passed : FnOk P w K mg base CX0 4 f_states_passed fd_states_passed ["field", "labels"] (sp_passed CF) := ok_states_passed F_states_passed TL M_Field_state_count C_is_never_passed
  have C_states_passed : Cal P w K mg base CX0 4 "states_passed" (sp_passed CF) := ⟨_, _, _, G_states_passed, gm n_states_passed, F_states_passed.kp, b_states_passed⟩
  have G_judged : FnOk P w K mg base CX0 1 f_judged fd_judged ["labels", "wrong"] sp_judged := ok_judged F_judged TL
  have C_judged : Cal P w K mg base CX0 1 "judged" sp_judged := ⟨_, _, _, G_judged, gm n_judged, F_judged.kp, b_judged⟩
  have G_behind_any : FnOk P w K mg base CX0 3 f_behind_any fd_behind_any ["field", "states", "value"] (sp_behind_any CF) := ok_behind_any F_behind_any TL M_Field_asked M_Field_ways
  have C_behind_any : Cal P w K mg base CX0 3 "behind_any" (sp_behind_any CF) := ⟨_, _, _, G_behind_any, gm n_behind_any, F_behind_any.kp, b_behind_any⟩
  have GL0 : FnOk P w K mg base CX0 3 f_lost_row fd_lost_row ["field", "states", "own", "longest"] (spLost CF 0) := ok_lost0
  have CL0 : Cal P w K mg base CX0 3 "lost_row" (spLost CF 0) := ⟨_, _, _, GL0, gm n_lost_row, F_lost_row.kp, b_lost_row⟩
  have GL1 : FnOk P w K mg base CX0 4 f_lost_row fd_lost_row ["field", "states", "own", "longest"] (spLost CF 1) := ok_lost_row F_lost_row TL M_Field_asked_from C_behind_any CL0 (Nat.le_of_ble_eq_true rfl)
  have CL1 : Cal P w K mg base CX0 4 "lost_row" (spLost CF 1) := ⟨_, _, _, GL1, gm n_lost_row, F_lost_row.kp, b_lost_row⟩
  have GL2 : FnOk P w K mg base CX0 5 f_lost_row fd_lost_row ["field", "states", "own", "longest"] (spLost CF 2) := ok_lost_row F_lost_row TL M_Field_asked_from C_behind_any CL1 (Nat.le_of_ble_eq_true rfl)
  have CL2 : Cal P w K mg base CX0 5 "lost_row" (spLost CF 2) := ⟨_, _, _, GL2, gm n_lost_row, F_lost_row.kp, b_lost_row⟩
  have GL3 : FnOk P w K mg base CX0 6 f_lost_row fd_lost_row ["field", "states", "own", "longest"] (spLost CF 3) := ok_lost_row F_lost_row TL M_Field_asked_from C_behind_any CL2 (Nat.le_of_ble_eq_true rfl)
  have CL3 : Cal P w K mg base CX0 6 "lost_row" (spLost CF 3) := ⟨_, _, _, GL3, gm n_lost_row, F_lost_row.kp, b_lost_row⟩
  have GL4 : FnOk P w K mg base CX0 7 f_lost_row fd_lost_row ["field", "states", "own", "longest"] (spLost CF 4) := ok_lost_row F_lost_row TL M_Field_asked_from C_behind_any CL3 (Nat.le_of_ble_eq_true rfl)
  have C_lost_row : Cal P w K mg base CX0 7 "lost_row" (spLost CF 4) := ⟨_, _, _, GL4, gm n_lost_row, F_lost_row.kp, b_lost_row⟩
  have G_may_be : FnOk P w K mg base CX0 4 f_may_be fd_may_be ["field", "state", "row"] (sp_may_be K CF) := ok_may_be F_may_be TL C_behind_any
  have C_may_be : Cal P w K mg base CX0 4 "may_be" (sp_may_be K CF) := ⟨_, _, _, G_may_be, gm n_may_be, F_may_be.kp, b_may_be⟩
  have G_farthest : FnOk P w K mg base CX0 5 f_farthest fd_farthest ["field", "state", "row"] (sp_farthest K CF) := ok_farthest F_farthest TL C_may_be
  have C_farthest : Cal P w K mg base CX0 5 "farthest" (sp_farthest K CF) := ⟨_, _, _, G_farthest, gm n_farthest, F_farthest.kp, b_farthest⟩
  have G_table_count : FnOk P w K mg base CX0 1 f_table_count fd_table_count ["holes", "count"] sp_table_count := ok_table_count F_table_count TF
  have C_table_count : Cal P w K mg base CX0 1 "table_count" sp_table_count := ⟨_, _, _, G_table_count, gm n_table_count, F_table_count.kp, b_table_count⟩
  have G_call_lower : FnOk P w K mg base (L2.CX P w) 9 f_call_lower fd_call_lower ["desk", "given"] (sp_doer K CD CC CF CR okL dLower) := ok_call_lower F_call_lower TD C_judged C_states_not_borne
  have W_call_lower : Doer P w K mg base 9 f_call_lower (sp_doer K CD CC CF CR okL dLower) := ⟨_, _, G_call_lower, F_call_lower.kp, b_call_lower⟩
  have G_call_upper : FnOk P w K mg base (L2.CX P w) 9 f_call_upper fd_call_upper ["desk", "given"] (sp_doer K CD CC CF CR okL dUpper) := ok_call_upper F_call_upper TD C_judged C_states_passed
  have W_call_upper : Doer P w K mg base 9 f_call_upper (sp_doer K CD CC CF CR okL dUpper) := ⟨_, _, G_call_upper, F_call_upper.kp, b_call_upper⟩
  have G_call_known : FnOk P w K mg base (L2.CX P w) 9 f_call_known fd_call_known ["desk", "given"] (sp_doer K CD CC CF CR okSN dKnown) := ok_call_known F_call_known TD C_lost_row C_counted
  have W_call_known : Doer P w K mg base 9 f_call_known (sp_doer K CD CC CF CR okSN dKnown) := ⟨_, _, G_call_known, F_call_known.kp, b_call_known⟩
  have G_call_far : FnOk P w K mg base (L2.CX P w) 9 f_call_far fd_call_far ["desk", "given"] (sp_doer K CD CC CF CR okSR dFar) := ok_call_far F_call_far TD C_farthest
  have W_call_far : Doer P w K mg base 9 f_call_far (sp_doer K CD CC CF CR okSR dFar) := ⟨_, _, G_call_far, F_call_far.kp, b_call_far⟩
  have G_call_may : FnOk P w K mg base (L2.CX P w) 9 f_call_may fd_call_may ["desk", "given"] (sp_doer K CD CC CF CR okSR dMay) := ok_call_may F_call_may TD C_may_be C_counted
  have W_call_may : Doer P w K mg base 9 f_call_may (sp_doer K CD CC CF CR okSR dMay) := ⟨_, _, G_call_may, F_call_may.kp, b_call_may⟩
  have G_call_before : FnOk P w K mg base (L2.CX P w) 9 f_call_before fd_call_before ["desk", "given"] (sp_doer K CD CC CF CR okS dBefore) := ok_call_before F_call_before TD M_Field_before C_counted
  have W_call_before : Doer P w K mg base 9 f_call_before (sp_doer K CD CC CF CR okS dBefore) := ⟨_, _, G_call_before, F_call_before.kp, b_call_before⟩
  have G_call_new : FnOk P w K mg base (L2.CX P w) 9 f_call_new fd_call_new ["desk", "given"] (sp_doer K CD CC CF CR okNo dNew) := ok_call_new F_call_new M_Desk_renew
  have W_call_new : Doer P w K mg base 9 f_call_new (sp_doer K CD CC CF CR okNo dNew) := ⟨_, _, G_call_new, F_call_new.kp, b_call_new⟩
  have G_call_change : FnOk P w K mg base (L2.CX P w) 9 f_call_change fd_call_change ["desk", "given"] (sp_doer K CD CC CF CR okV dChange) := ok_call_change F_call_change TD R_NotAsked R_WithoutWay C_notch_count M_Card_change
  have W_call_change : Doer P w K mg base 9 f_call_change (sp_doer K CD CC CF CR okV dChange) := ⟨_, _, G_call_change, F_call_change.kp, b_call_change⟩
  have G_call_notch : FnOk P w K mg base (L2.CX P w) 9 f_call_notch fd_call_notch ["desk", "given"] (sp_doer K CD CC CF CR okHo dNotch) := ok_call_notch F_call_notch TD R_HoleNotched M_Card_notch
  have W_call_notch : Doer P w K mg base 9 f_call_notch (sp_doer K CD CC CF CR okHo dNotch) := ⟨_, _, G_call_notch, F_call_notch.kp, b_call_notch⟩
  have G_call_card : FnOk P w K mg base (L2.CX P w) 9 f_call_card fd_call_card ["desk", "given"] (sp_doer K CD CC CF CR okNo dCard) := ok_call_card F_call_card TD C_rank_number C_value_number
  have W_call_card : Doer P w K mg base 9 f_call_card (sp_doer K CD CC CF CR okNo dCard) := ⟨_, _, G_call_card, F_call_card.kp, b_call_card⟩
  have GT_Field_asked_from : FnOk P w K mg base CX0 1 f_Field_asked_from fd_Field_asked_from ["self", "own"] (spF_asked_from CT) := okF_asked_from F_Field_asked_from TT
  have M_Trial_asked_from : Met P w K mg base CX0 1 CT "asked_from" (spF_asked_from CT) := ⟨_, _, _, cls_Trial, ⟨at_Trial_asked_from, fn_Field_asked_from, F_Field_asked_from.kp⟩, GT_Field_asked_from, b_Field_asked_from⟩
  have GT_Field_asked : FnOk P w K mg base CX0 2 f_Field_asked fd_Field_asked ["self", "state"] (spAsked CT) := ok_asked F_Field_asked TT M_Trial_asked_from
  have M_Trial_asked : Met P w K mg base CX0 2 CT "asked" (spAsked CT) := ⟨_, _, _, cls_Trial, ⟨at_Trial_asked, fn_Field_asked, F_Field_asked.kp⟩, GT_Field_asked, b_Field_asked⟩
  have GT_Field_state_count : FnOk P w K mg base CX0 1 f_Field_state_count fd_Field_state_count ["self"] (spF_state_count CT) := okF_state_count F_Field_state_count TT
  have M_Trial_state_count : Met P w K mg base CX0 1 CT "state_count" (spF_state_count CT) := ⟨_, _, _, cls_Trial, ⟨at_Trial_state_count, fn_Field_state_count, F_Field_state_count.kp⟩, GT_Field_state_count, b_Field_state_count⟩
  have GT_Field_best_ways : FnOk P w K mg base CX0 1 f_Field_best_ways fd_Field_best_ways ["self", "state"] (spF_best_ways CT) := okF_best_ways F_Field_best_ways TT
  have M_Trial_best_ways : Met P w K mg base CX0 1 CT "best_ways" (spF_best_ways CT) := ⟨_, _, _, cls_Trial, ⟨at_Trial_best_ways, fn_Field_best_ways, F_Field_best_ways.kp⟩, GT_Field_best_ways, b_Field_best_ways⟩
  have GT_Field_left : FnOk P w K mg base CX0 1 f_Field_left fd_Field_left ["self", "state", "value"] (spF_left CT) := okF_left F_Field_left TT
  have M_Trial_left : Met P w K mg base CX0 1 CT "left" (spF_left CT) := ⟨_, _, _, cls_Trial, ⟨at_Trial_left, fn_Field_left, F_Field_left.kp⟩, GT_Field_left, b_Field_left⟩
  have GT_Field_least_left : FnOk P w K mg base CX0 3 f_Field_least_left fd_Field_least_left ["self", "state"] (spF_least_left CT) := okF_least_left F_Field_least_left TT M_Trial_asked M_Trial_left
  have M_Trial_least_left : Met P w K mg base CX0 3 CT "least_left" (spF_least_left CT) := ⟨_, _, _, cls_Trial, ⟨at_Trial_least_left, fn_Field_least_left, F_Field_least_left.kp⟩, GT_Field_least_left, b_Field_least_left⟩
  have GT_Field_settle : FnOk P w K mg base CX0 4 f_Field_settle fd_Field_settle ["self", "state"] (spF_settle CT) := okF_settle F_Field_settle TT M_Trial_best_ways M_Trial_least_left
  have M_Trial_settle : Met P w K mg base CX0 4 CT "settle" (spF_settle CT) := ⟨_, _, _, cls_Trial, ⟨at_Trial_settle, fn_Field_settle, F_Field_settle.kp⟩, GT_Field_settle, b_Field_settle⟩
  have GT_Field_init : FnOk P w K mg base CX0 5 f_Field_init fd_Field_init ["self", "holes", "names", "lets", "table"] (spF_init K CT) := okF_init F_Field_init TT C_more_notched M_Trial_settle
  have G_Trial_init : FnOk P w K mg base CX0 6 f_Trial_init fd_Trial_init ["self", "holes", "count"] (spT_init CT) := okT_init F_Trial_init TT Q_Field_init GT_Field_init b_Field_init
  have K_Trial : Mak P w K mg base CX0 6 "Trial" CT (spT_init CT) := ⟨_, _, _, ⟨mk_Trial, i_Trial, fn_Trial_init, kc_Trial⟩, G_Trial_init, gm n_Trial, b_Trial_init⟩
  have G_Trial_advance : FnOk P w K mg base CX0 5 f_Trial_advance fd_Trial_advance ["self"] (spT_advance CT) := okT_advance F_Trial_advance TT M_Trial_state_count M_Trial_settle
  have M_Trial_advance : Met P w K mg base CX0 5 CT "advance" (spT_advance CT) := ⟨_, _, _, cls_Trial, ⟨at_Trial_advance, fn_Trial_advance, F_Trial_advance.kp⟩, G_Trial_advance, b_Trial_advance⟩
  have G_best_field : FnOk P w K mg base (L2.CX P w) 8 f_best_field fd_best_field ["holes", "count"] (sp_best_field CF CM) := ok_best_field F_best_field TB C_table_count K_Trial K_Field M_Trial_advance E_TooManyTables
  have C_best_field : Cal P w K mg base (L2.CX P w) 8 "best_field" (sp_best_field CF CM) := ⟨_, _, _, G_best_field, gm n_best_field, F_best_field.kp, b_best_field⟩
  have G_call_best : FnOk P w K mg base (L2.CX P w) 9 f_call_best fd_call_best ["desk", "given"] (sp_doer K CD CC CF CR okHV dBest) := ok_call_best F_call_best TD R_TooManyTables C_best_field C_rank_number C_value_number
  have W_call_best : Doer P w K mg base 9 f_call_best (sp_doer K CD CC CF CR okHV dBest) := ⟨_, _, G_call_best, F_call_best.kp, b_call_best⟩
  have hAsk : ∀ c, Ask c → (∀ t ∈ (thingsOf gv c).2, okT1 t.1 t.2) ∧ (thingsOf gv c).2.length ≤ 100000 ∧ ∃ f, KInt K aD (thingsOf gv c).1 (.ref f) ∧ (fun f sp => Doer P w K mg base 9 f sp) f (sp_doer K CD CC CF CR (okCT (thingsOf gv c).1) (dspT (thingsOf gv c).1)) := fun c hc => by
    obtain ⟨h1, h2, n, k, h3⟩ := ask_things hc
    refine ⟨h1, h2, ?_⟩
    generalize (thingsOf gv c).1 = p at h3 ⊢
    cases shape_case h3
    · exact ⟨_, ⟨_, _, _, l_DOERS, k_DOERS, d_0, rfl⟩, W_call_clear⟩
    · exact ⟨_, ⟨_, _, _, l_DOERS, k_DOERS, d_1, rfl⟩, W_call_field⟩
    · exact ⟨_, ⟨_, _, _, l_DOERS, k_DOERS, d_2, rfl⟩, W_call_look⟩
    · exact ⟨_, ⟨_, _, _, l_DOERS, k_DOERS, d_3, rfl⟩, W_call_text⟩
    · exact ⟨_, ⟨_, _, _, l_DOERS, k_DOERS, d_4, rfl⟩, W_call_told⟩
    · exact ⟨_, ⟨_, _, _, l_DOERS, k_DOERS, d_5, rfl⟩, W_call_value⟩
    · exact ⟨_, ⟨_, _, _, l_DOERS, k_DOERS, d_6, rfl⟩, W_call_ways⟩
    · exact ⟨_, ⟨_, _, _, l_DOERS, k_DOERS, d_7, rfl⟩, W_call_ranks⟩
    · exact ⟨_, ⟨_, _, _, l_DOERS, k_DOERS, d_8, rfl⟩, W_call_go⟩
    · exact ⟨_, ⟨_, _, _, l_DOERS, k_DOERS, d_9, rfl⟩, W_call_worst⟩
    · exact ⟨_, ⟨_, _, _, l_DOERS, k_DOERS, d_10, rfl⟩, W_call_carry⟩
    · exact ⟨_, ⟨_, _, _, l_DOERS, k_DOERS, d_11, rfl⟩, W_call_lower⟩
    · exact ⟨_, ⟨_, _, _, l_DOERS, k_DOERS, d_12, rfl⟩, W_call_upper⟩
    · exact ⟨_, ⟨_, _, _, l_DOERS, k_DOERS, d_13, rfl⟩, W_call_known⟩
    · exact ⟨_, ⟨_, _, _, l_DOERS, k_DOERS, d_14, rfl⟩, W_call_far⟩
    · exact ⟨_, ⟨_, _, _, l_DOERS, k_DOERS, d_15, rfl⟩, W_call_may⟩
    · exact ⟨_, ⟨_, _, _, l_DOERS, k_DOERS, d_16, rfl⟩, W_call_best⟩
    · exact ⟨_, ⟨_, _, _, l_DOERS, k_DOERS, d_17, rfl⟩, W_call_new⟩
    · exact ⟨_, ⟨_, _, _, l_DOERS, k_DOERS, d_18, rfl⟩, W_call_change⟩
    · exact ⟨_, ⟨_, _, _, l_DOERS, k_DOERS, d_19, rfl⟩, W_call_notch⟩
    · exact ⟨_, ⟨_, _, _, l_DOERS, k_DOERS, d_20, rfl⟩, W_call_card⟩
    · exact ⟨_, ⟨_, _, _, l_DOERS, k_DOERS, d_21, rfl⟩, W_call_before⟩
  have G_answer : FnOk P w K mg base CX0 10 f_answer fd_answer ["desk", "number", "given"] (sp_answer CD CC CF gv Ask) := ok_answer (okT := okT1) (chk := chk1) (okC := okCT) (dsp := dspT) (Sd := fun f sp => Doer P w K mg base 9 f sp) F_answer TW2 C_checked (fun f sp h => h) hAsk (fun st c cs h _ hc => ask_ok st c cs h hc) (fun st c h _ => ask_step st c h)
  have C_answer : Cal P w K mg base CX0 10 "answer" (sp_answer CD CC CF gv Ask) := ⟨_, _, _, G_answer, gm n_answer, F_answer.kp, b_answer⟩
  exact ok_answers F_answers TA K_Desk C_parted C_answer
end N
set_option Elab.async false
set_option linter.all false
set_option maxRecDepth 100000
set_option maxHeartbeats 4000000
namespace N
open PySem PySem.Spec PyProof.Rows L2 Evl
/-- what is asked of the list that is handed in -/
theorem asked_sp {K : PySem.W.Frag} {H : Hp} {p : Addr} {l : List Int} {Q : VK} {E : XK} (hs : SqL K H p (vints l)) (hlen : l.length ≤ 16000) (hask : PyVbenaf.answers_asked l = true)
    (hQ : ∀ H' q, H' q = some (.lst (vints (PyVbenaf.answers l))) → Q (.ref q) H') : sp_answers K Ask [.ref p] H Q E := by
  unfold PyVbenaf.answers_asked at hask
  cases hc : PyFlat.calls PyVbenaf.shape l.length l with
  | none => rw [hc] at hask; cases hask
  | some raw =>
    rw [hc] at hask
    have hm : raw.map PyVbenaf.whole = raw := by
      conv => rhs; rw [← List.map_id raw]
      exact List.map_congr_left fun c _ => whole_id c
    have ha : PyVbenaf.answers l = PyFlat.told (PyFlat.played Vbenaf.step Vbenaf.start raw) := by
      unfold PyVbenaf.answers PyVbenaf.calls
      rw [hc]
      show PyFlat.told (PyFlat.played VbenafNeutral.step VbenafNeutral.start (raw.map PyVbenaf.whole)) = _
      rw [hm]
      rfl
    dsimp only at hask
    rw [Bool.and_eq_true, Bool.and_eq_true, Bool.and_eq_true, Bool.and_eq_true] at hask
    obtain ⟨⟨⟨⟨_, h100⟩, hin⟩, _⟩, hsh⟩ := hask
    have h1 : raw.length ≤ 100 := of_decide_eq_true h100
    have h2 : (PyVbenaf.answers l).length ≤ 10000000 := of_decide_eq_true hsh
    rw [ha] at h2 hQ
    exact ⟨p, l, raw, rfl, hs, by omega, hc, by omega, raw_ask hc hin, h2, hQ⟩
theorem head_len {c : PySem.W.Codec} {l : List c.denote} (h : PySem.W.Codec.within (.list 0 16000 c) l = true) : l.length ≤ 16000 := by
  have h1 := (Bool.and_eq_true_iff.mp (show (PySem.W.Codec.inLen 0 16000 l && l.all c.within) = true from h)).1
  have h2 := (Bool.and_eq_true_iff.mp (show (decide (0 ≤ l.length) && decide (l.length ≤ 16000)) = true from h1)).2
  exact of_decide_eq_true h2
end N
set_option Elab.async false
set_option linter.all false
set_option maxRecDepth 100000
set_option maxHeartbeats 0
open PySem PySem.W PyProof.Rows
theorem PySem.Challenge.cw_notchcards_s01_answers_holds : PySem.Challenge.rw_notchcards_s01_answers.Holds := by
  w_on
  refine holds_os (r := PySem.Challenge.rw_notchcards_s01_answers) (q := N.qv) (loose := N.loose) (Xt := N.lookX) (XP := XL N.qv []) (Yf := Hook.obs (kHook N.first.heap_1 N.at_ N.at_eq)) (Ya := Hook.val (kHook N.first.heap_1 N.at_ N.at_eq)) (YP := Hook.says (kHook N.first.heap_1 N.at_ N.at_eq)) (N := 16000) N.left (Hook.of (kHook N.first.heap_1 N.at_ N.at_eq)) (Hook.keeps (kHook N.first.heap_1 N.at_ N.at_eq))
    (fun s z => xl_of s (Bool.and_eq_true_iff.mp z).1) XL.keeps (by rfl) (by rfl) (by rfl)
    (fun s z => recFacts_of (Bool.and_eq_true_iff.mp z).2) os_shapes (by decide +kernel) (by decide +kernel) ⟨rfl, rfl, rfl, rfl, rfl, by decide +kernel⟩ ?hw ?hc
  (case hw => exact ⟨[.list [.int 0]], by decide +kernel, by decide +kernel⟩)
  k_fillS
  refine L2.walk_specK (r := PySem.Challenge.rw_notchcards_s01_answers) (k := 11) (CX := L2.CX0) (ps := ["calls"]) (sp := fun K => N.sp_answers K N.Ask) (by decide +kernel) rfl rfl ⟨rfl, by decide, by decide⟩ (fun w h Y => PySem.W.kIn_of Y) ?F ?S (fun _ _ _ _ z => z)
  case F =>
    intro w mg fa h Y KX G hmg
    refine' N.all_mk KX G hmg ?b_len ?b_range ?b_list ?b_str ?b_int ?b_ord ?b_min ?b_any ?b_all ?b_sorted ?b_set ?c_NO_VALUE ?c_NO_WAY ?c_NO_END ?c_LONGEST_NAME ?c_MOST_HOLES ?c_MOST_VALUES ?c_MOST_LETS ?c_GREATEST_STATE ?c_GREATEST_VALUE ?c_GREATEST_HOLE ?c_GREATEST_BYTE ?c_LONGEST_ROW ?c_GREATEST_LABEL ?c_MOST_TABLES ?c_LINE_END ?c_LETTERS ?n_first_field ?D_first_field ?n_more_notched ?D_more_notched ?n_notch_count ?D_notch_count ?n_sign_of ?D_sign_of ?n_words_of ?D_words_of ?n_take_number ?D_take_number ?n_take_value ?D_take_value ?n_may_be_name ?D_may_be_name ?n_read_holes ?D_read_holes ?n_read_names ?D_read_names ?n_read_let ?D_read_let ?n_read_at ?D_read_at ?n_read_field ?D_read_field ?n_state_line ?D_state_line ?n_one_text ?D_one_text ?n_parted ?D_parted ?n_checked_range ?D_checked_range ?n_checked_number ?D_checked_number ?n_checked_bytes ?D_checked_bytes ?n_checked_row ?D_checked_row ?n_checked_labels ?D_checked_labels ?n_checked ?D_checked ?n_is_borne ?D_is_borne ?n_is_never_passed ?D_is_never_passed ?n_states_not_borne ?D_states_not_borne ?n_states_passed ?D_states_passed ?n_behind_any ?D_behind_any ?n_may_be ?D_may_be ?n_farthest ?D_farthest ?n_lost_row ?D_lost_row ?n_table_count ?D_table_count ?n_best_field ?D_best_field ?n_rank_number ?D_rank_number ?n_counted ?D_counted ?n_value_number ?D_value_number ?n_judged ?D_judged ?n_call_clear ?D_call_clear ?n_call_field ?D_call_field ?n_call_look ?D_call_look ?n_call_text ?D_call_text ?n_call_told ?D_call_told ?n_call_value ?D_call_value ?n_call_ways ?D_call_ways ?n_call_ranks ?D_call_ranks ?n_call_go ?D_call_go ?n_call_worst ?D_call_worst ?n_call_carry ?D_call_carry ?n_call_lower ?D_call_lower ?n_call_upper ?D_call_upper ?n_call_known ?D_call_known ?n_call_far ?D_call_far ?n_call_may ?D_call_may ?n_call_best ?D_call_best ?n_call_new ?D_call_new ?n_call_change ?D_call_change ?n_call_notch ?D_call_notch ?n_call_card ?D_call_card ?n_call_before ?D_call_before ?n_answer ?D_answer ?n_answers ?D_answers ?n_Field ?cls_Field ?mk_Field ?kc_Field ?i_Field ?fn_Field_init ?D_Field_init ?na_Field_holes ?na_Field_names ?na_Field_lets ?na_Field_table ?na_Field_above ?na_Field_ranks ?na_Field_best ?at_Field_settle ?fn_Field_settle ?D_Field_settle ?at_Field_state_count ?fn_Field_state_count ?D_Field_state_count ?at_Field_valued_count ?fn_Field_valued_count ?D_Field_valued_count ?at_Field_asked ?fn_Field_asked ?D_Field_asked ?at_Field_asked_from ?fn_Field_asked_from ?D_Field_asked_from ?at_Field_ways ?fn_Field_ways ?D_Field_ways ?at_Field_before ?fn_Field_before ?D_Field_before ?at_Field_best_ways ?fn_Field_best_ways ?D_Field_best_ways ?at_Field_left ?fn_Field_left ?D_Field_left ?at_Field_least_left ?fn_Field_least_left ?D_Field_least_left ?at_Field_worst_value ?fn_Field_worst_value ?D_Field_worst_value ?at_Field_worst_row ?fn_Field_worst_row ?D_Field_worst_row ?at_Field_behind ?fn_Field_behind ?D_Field_behind ?at_Field_carried ?fn_Field_carried ?D_Field_carried ?n_Trial ?cls_Trial ?mk_Trial ?kc_Trial ?i_Trial ?fn_Trial_init ?D_Trial_init ?na_Trial_holes ?na_Trial_names ?na_Trial_lets ?na_Trial_table ?na_Trial_above ?na_Trial_ranks ?na_Trial_best ?at_Trial_advance ?fn_Trial_advance ?D_Trial_advance ?n_Words ?cls_Words ?mk_Words ?kc_Words ?i_Words ?fn_Words_init ?D_Words_init ?na_Words_words ?na_Words_length ?na_Words_passed ?at_Words_ended ?fn_Words_ended ?D_Words_ended ?at_Words_word ?fn_Words_word ?D_Words_word ?at_Words_take ?fn_Words_take ?D_Words_take ?n_Card ?cls_Card ?mk_Card ?kc_Card ?i_Card ?fn_Card_init ?D_Card_init ?na_Card_field ?na_Card_state ?na_Card_changes ?at_Card_change ?fn_Card_change ?D_Card_change ?at_Card_notch ?fn_Card_notch ?D_Card_notch ?n_Desk ?cls_Desk ?mk_Desk ?kc_Desk ?i_Desk ?fn_Desk_init ?D_Desk_init ?na_Desk_field ?na_Desk_card ?at_Desk_lay ?fn_Desk_lay ?D_Desk_lay ?at_Desk_renew ?fn_Desk_renew ?D_Desk_renew ?at_Trial_best_ways ?at_Trial_least_left ?at_Trial_asked ?at_Trial_asked_from ?at_Trial_left ?at_Trial_settle ?at_Trial_state_count ?n_Refusal ?i_Refusal ?e_Refusal ?D_Refusal_init ?n_NotBytes ?i_NotBytes ?e_NotBytes ?D_NotBytes_init ?n_OutOfRange ?i_OutOfRange ?e_OutOfRange ?D_OutOfRange_init ?n_BadList ?i_BadList ?e_BadList ?D_BadList_init ?n_NotThere ?i_NotThere ?e_NotThere ?D_NotThere_init ?n_NotAsked ?i_NotAsked ?e_NotAsked ?D_NotAsked_init ?n_HoleNotched ?i_HoleNotched ?e_HoleNotched ?D_HoleNotched_init ?n_WithoutWay ?i_WithoutWay ?e_WithoutWay ?D_WithoutWay_init ?n_TooManyTables ?i_TooManyTables ?e_TooManyTables ?D_TooManyTables_init ?n_Fault ?i_Fault ?e_Fault ?D_Fault_init ?ic_Refusal ?ic_Fault ?sb_FF ?sb_NotBytes ?sb_OutOfRange ?sb_BadList ?sb_NotThere ?sb_NotAsked ?sb_HoleNotched ?sb_WithoutWay ?sb_TooManyTables ?sb_Fault ?qa_Refusal ?qr_Refusal ?qf_Refusal ?qa_Field ?qr_Field ?qf_Field ?n_GIVEN ?l_GIVEN ?k_GIVEN ?g_0 ?l_g0 ?z_g0_ok ?v_g0 ?g_1 ?l_g1 ?z_g1_ok ?v_g1 ?g_2 ?l_g2 ?z_g2_ok ?v_g2 ?g_3 ?l_g3 ?z_g3_ok ?v_g3 ?g_4 ?l_g4 ?z_g4_ok ?v_g4 ?g_5 ?l_g5 ?z_g5_ok ?v_g5 ?g_6 ?l_g6 ?z_g6_ok ?v_g6 ?g_7 ?l_g7 ?z_g7_ok ?v_g7 ?g_8 ?l_g8 ?z_g8_ok ?v_g8 ?g_9 ?l_g9 ?z_g9_ok ?v_g9 ?g_10 ?l_g10 ?z_g10_ok ?v_g10 ?g_11 ?l_g11 ?z_g11_ok ?v_g11 ?g_12 ?l_g12 ?z_g12_ok ?v_g12 ?g_13 ?l_g13 ?z_g13_ok ?v_g13 ?g_14 ?l_g14 ?z_g14_ok ?v_g14 ?g_15 ?l_g15 ?z_g15_ok ?v_g15 ?g_16 ?l_g16 ?z_g16_ok ?v_g16 ?g_17 ?l_g17 ?z_g17_ok ?v_g17 ?g_18 ?l_g18 ?z_g18_ok ?v_g18 ?g_19 ?l_g19 ?z_g19_ok ?v_g19 ?g_20 ?l_g20 ?z_g20_ok ?v_g20 ?g_21 ?l_g21 ?z_g21_ok ?v_g21 ?n_DOERS ?l_DOERS ?k_DOERS ?d_0 ?d_1 ?d_2 ?d_3 ?d_4 ?d_5 ?d_6 ?d_7 ?d_8 ?d_9 ?d_10 ?d_11 ?d_12 ?d_13 ?d_14 ?d_15 ?d_16 ?d_17 ?d_18 ?d_19 ?d_20 ?d_21 ?n_LISTS ?l_LISTS ?z_LISTS_ok ?v_LISTS ?n_RANGES ?l_RANGES ?k_RANGES ?low_RANGES ?r_0 ?l_r0 ?z_r0_ok ?v_r0 ?r_1 ?l_r1 ?z_r1_ok ?v_r1 ?r_2 ?l_r2 ?z_r2_ok ?v_r2 ?rn_state ?rn_value ?rn_hole ?rn_row ?rn_labels ?rn_codes ?rn_text
    (case b_len => k_is)
    (case b_range => k_is)
    (case b_list => k_is)
    (case b_str => k_is)
    (case b_int => k_is)
    (case b_ord => k_is)
    (case b_min => k_is)
    (case b_any => k_is)
    (case b_all => k_is)
    (case b_sorted => k_is)
    (case b_set => k_is)
    (case c_NO_VALUE => k_is)
    (case c_NO_WAY => k_is)
    (case c_NO_END => k_is)
    (case c_LONGEST_NAME => k_is)
    (case c_MOST_HOLES => k_is)
    (case c_MOST_VALUES => k_is)
    (case c_MOST_LETS => k_is)
    (case c_GREATEST_STATE => k_is)
    (case c_GREATEST_VALUE => k_is)
    (case c_GREATEST_HOLE => k_is)
    (case c_GREATEST_BYTE => k_is)
    (case c_LONGEST_ROW => k_is)
    (case c_GREATEST_LABEL => k_is)
    (case c_MOST_TABLES => k_is)
    (case c_LINE_END => k_is)
    (case c_LETTERS => k_is)
    (case n_first_field => k_is)
    (case D_first_field => refine' N.defAt ?l ?c ?k; (case l => k_is); (case c => k_is); (case k => k_is))
    (case n_more_notched => k_is)
    (case D_more_notched => refine' N.defAt ?l ?c ?k; (case l => k_is); (case c => k_is); (case k => k_is))
    (case n_notch_count => k_is)
    (case D_notch_count => refine' N.defAt ?l ?c ?k; (case l => k_is); (case c => k_is); (case k => k_is))
    (case n_sign_of => k_is)
    (case D_sign_of => refine' N.defAt ?l ?c ?k; (case l => k_is); (case c => k_is); (case k => k_is))
    (case n_words_of => k_is)
    (case D_words_of => refine' N.defAt ?l ?c ?k; (case l => k_is); (case c => k_is); (case k => k_is))
    (case n_take_number => k_is)
    (case D_take_number => refine' N.defAt ?l ?c ?k; (case l => k_is); (case c => k_is); (case k => k_is))
    (case n_take_value => k_is)
    (case D_take_value => refine' N.defAt ?l ?c ?k; (case l => k_is); (case c => k_is); (case k => k_is))
    (case n_may_be_name => k_is)
    (case D_may_be_name => refine' N.defAt ?l ?c ?k; (case l => k_is); (case c => k_is); (case k => k_is))
    (case n_read_holes => k_is)
    (case D_read_holes => refine' N.defAt ?l ?c ?k; (case l => k_is); (case c => k_is); (case k => k_is))
    (case n_read_names => k_is)
    (case D_read_names => refine' N.defAt ?l ?c ?k; (case l => k_is); (case c => k_is); (case k => k_is))
    (case n_read_let => k_is)
    (case D_read_let => refine' N.defAt ?l ?c ?k; (case l => k_is); (case c => k_is); (case k => k_is))
    (case n_read_at => k_is)
    (case D_read_at => refine' N.defAt ?l ?c ?k; (case l => k_is); (case c => k_is); (case k => k_is))
    (case n_read_field => k_is)
    (case D_read_field => refine' N.defAt ?l ?c ?k; (case l => k_is); (case c => k_is); (case k => k_is))
    (case n_state_line => k_is)
    (case D_state_line => refine' N.defAt ?l ?c ?k; (case l => k_is); (case c => k_is); (case k => k_is))
    (case n_one_text => k_is)
    (case D_one_text => refine' N.defAt ?l ?c ?k; (case l => k_is); (case c => k_is); (case k => k_is))
    (case n_parted => k_is)
    (case D_parted => refine' N.defAt ?l ?c ?k; (case l => k_is); (case c => k_is); (case k => k_is))
    (case n_checked_range => k_is)
    (case D_checked_range => refine' N.defAt ?l ?c ?k; (case l => k_is); (case c => k_is); (case k => k_is))
    (case n_checked_number => k_is)
    (case D_checked_number => refine' N.defAt ?l ?c ?k; (case l => k_is); (case c => k_is); (case k => k_is))
    (case n_checked_bytes => k_is)
    (case D_checked_bytes => refine' N.defAt ?l ?c ?k; (case l => k_is); (case c => k_is); (case k => k_is))
    (case n_checked_row => k_is)
    (case D_checked_row => refine' N.defAt ?l ?c ?k; (case l => k_is); (case c => k_is); (case k => k_is))
    (case n_checked_labels => k_is)
    (case D_checked_labels => refine' N.defAt ?l ?c ?k; (case l => k_is); (case c => k_is); (case k => k_is))
    (case n_checked => k_is)
    (case D_checked => refine' N.defAt ?l ?c ?k; (case l => k_is); (case c => k_is); (case k => k_is))
    (case n_is_borne => k_is)
    (case D_is_borne => refine' N.defAt ?l ?c ?k; (case l => k_is); (case c => k_is); (case k => k_is))
    (case n_is_never_passed => k_is)
    (case D_is_never_passed => refine' N.defAt ?l ?c ?k; (case l => k_is); (case c => k_is); (case k => k_is))
    (case n_states_not_borne => k_is)
    (case D_states_not_borne => refine' N.defAt ?l ?c ?k; (case l => k_is); (case c => k_is); (case k => k_is))
    (case n_states_passed => k_is)
    (case D_states_passed => refine' N.defAt ?l ?c ?k; (case l => k_is); (case c => k_is); (case k => k_is))
    (case n_behind_any => k_is)
    (case D_behind_any => refine' N.defAt ?l ?c ?k; (case l => k_is); (case c => k_is); (case k => k_is))
    (case n_may_be => k_is)
    (case D_may_be => refine' N.defAt ?l ?c ?k; (case l => k_is); (case c => k_is); (case k => k_is))
    (case n_farthest => k_is)
    (case D_farthest => refine' N.defAt ?l ?c ?k; (case l => k_is); (case c => k_is); (case k => k_is))
    (case n_lost_row => k_is)
    (case D_lost_row => refine' N.defAt ?l ?c ?k; (case l => k_is); (case c => k_is); (case k => k_is))
    (case n_table_count => k_is)
    (case D_table_count => refine' N.defAt ?l ?c ?k; (case l => k_is); (case c => k_is); (case k => k_is))
    (case n_best_field => k_is)
    (case D_best_field => refine' N.defAt ?l ?c ?k; (case l => k_is); (case c => k_is); (case k => k_is))
    (case n_rank_number => k_is)
    (case D_rank_number => refine' N.defAt ?l ?c ?k; (case l => k_is); (case c => k_is); (case k => k_is))
    (case n_counted => k_is)
    (case D_counted => refine' N.defAt ?l ?c ?k; (case l => k_is); (case c => k_is); (case k => k_is))
    (case n_value_number => k_is)
    (case D_value_number => refine' N.defAt ?l ?c ?k; (case l => k_is); (case c => k_is); (case k => k_is))
    (case n_judged => k_is)
    (case D_judged => refine' N.defAt ?l ?c ?k; (case l => k_is); (case c => k_is); (case k => k_is))
    (case n_call_clear => k_is)
    (case D_call_clear => refine' N.defAt ?l ?c ?k; (case l => k_is); (case c => k_is); (case k => k_is))
    (case n_call_field => k_is)
    (case D_call_field => refine' N.defAt ?l ?c ?k; (case l => k_is); (case c => k_is); (case k => k_is))
    (case n_call_look => k_is)
    (case D_call_look => refine' N.defAt ?l ?c ?k; (case l => k_is); (case c => k_is); (case k => k_is))
    (case n_call_text => k_is)
    (case D_call_text => refine' N.defAt ?l ?c ?k; (case l => k_is); (case c => k_is); (case k => k_is))
    (case n_call_told => k_is)
    (case D_call_told => refine' N.defAt ?l ?c ?k; (case l => k_is); (case c => k_is); (case k => k_is))
    (case n_call_value => k_is)
    (case D_call_value => refine' N.defAt ?l ?c ?k; (case l => k_is); (case c => k_is); (case k => k_is))
    (case n_call_ways => k_is)
    (case D_call_ways => refine' N.defAt ?l ?c ?k; (case l => k_is); (case c => k_is); (case k => k_is))
    (case n_call_ranks => k_is)
    (case D_call_ranks => refine' N.defAt ?l ?c ?k; (case l => k_is); (case c => k_is); (case k => k_is))
    (case n_call_go => k_is)
    (case D_call_go => refine' N.defAt ?l ?c ?k; (case l => k_is); (case c => k_is); (case k => k_is))
    (case n_call_worst => k_is)
    (case D_call_worst => refine' N.defAt ?l ?c ?k; (case l => k_is); (case c => k_is); (case k => k_is))
    (case n_call_carry => k_is)
    (case D_call_carry => refine' N.defAt ?l ?c ?k; (case l => k_is); (case c => k_is); (case k => k_is))
    (case n_call_lower => k_is)
    (case D_call_lower => refine' N.defAt ?l ?c ?k; (case l => k_is); (case c => k_is); (case k => k_is))
    (case n_call_upper => k_is)
    (case D_call_upper => refine' N.defAt ?l ?c ?k; (case l => k_is); (case c => k_is); (case k => k_is))
    (case n_call_known => k_is)
    (case D_call_known => refine' N.defAt ?l ?c ?k; (case l => k_is); (case c => k_is); (case k => k_is))
    (case n_call_far => k_is)
    (case D_call_far => refine' N.defAt ?l ?c ?k; (case l => k_is); (case c => k_is); (case k => k_is))
    (case n_call_may => k_is)
    (case D_call_may => refine' N.defAt ?l ?c ?k; (case l => k_is); (case c => k_is); (case k => k_is))
    (case n_call_best => k_is)
    (case D_call_best => refine' N.defAt ?l ?c ?k; (case l => k_is); (case c => k_is); (case k => k_is))
    (case n_call_new => k_is)
    (case D_call_new => refine' N.defAt ?l ?c ?k; (case l => k_is); (case c => k_is); (case k => k_is))
    (case n_call_change => k_is)
    (case D_call_change => refine' N.defAt ?l ?c ?k; (case l => k_is); (case c => k_is); (case k => k_is))
    (case n_call_notch => k_is)
    (case D_call_notch => refine' N.defAt ?l ?c ?k; (case l => k_is); (case c => k_is); (case k => k_is))
    (case n_call_card => k_is)
    (case D_call_card => refine' N.defAt ?l ?c ?k; (case l => k_is); (case c => k_is); (case k => k_is))
    (case n_call_before => k_is)
    (case D_call_before => refine' N.defAt ?l ?c ?k; (case l => k_is); (case c => k_is); (case k => k_is))
    (case n_answer => k_is)
    (case D_answer => refine' N.defAt ?l ?c ?k; (case l => k_is); (case c => k_is); (case k => k_is))
    (case n_answers => k_is)
    (case D_answers => refine' N.defAt ?l ?c ?k; (case l => k_is); (case c => k_is); (case k => k_is))
    (case n_Field => k_is)
    (case cls_Field => exact ⟨by k_is, by k_is, by k_is, by k_is⟩)
    (case mk_Field => k_is)
    (case kc_Field => k_is)
    (case i_Field => k_is)
    (case fn_Field_init => k_is)
    (case D_Field_init => refine' N.defAt ?l ?c ?k; (case l => k_is); (case c => k_is); (case k => k_is))
    (case na_Field_holes => k_is)
    (case na_Field_names => k_is)
    (case na_Field_lets => k_is)
    (case na_Field_table => k_is)
    (case na_Field_above => k_is)
    (case na_Field_ranks => k_is)
    (case na_Field_best => k_is)
    (case at_Field_settle => k_is)
    (case fn_Field_settle => k_is)
    (case D_Field_settle => refine' N.defAt ?l ?c ?k; (case l => k_is); (case c => k_is); (case k => k_is))
    (case at_Field_state_count => k_is)
    (case fn_Field_state_count => k_is)
    (case D_Field_state_count => refine' N.defAt ?l ?c ?k; (case l => k_is); (case c => k_is); (case k => k_is))
    (case at_Field_valued_count => k_is)
    (case fn_Field_valued_count => k_is)
    (case D_Field_valued_count => refine' N.defAt ?l ?c ?k; (case l => k_is); (case c => k_is); (case k => k_is))
    (case at_Field_asked => k_is)
    (case fn_Field_asked => k_is)
    (case D_Field_asked => refine' N.defAt ?l ?c ?k; (case l => k_is); (case c => k_is); (case k => k_is))
    (case at_Field_asked_from => k_is)
    (case fn_Field_asked_from => k_is)
    (case D_Field_asked_from => refine' N.defAt ?l ?c ?k; (case l => k_is); (case c => k_is); (case k => k_is))
    (case at_Field_ways => k_is)
    (case fn_Field_ways => k_is)
    (case D_Field_ways => refine' N.defAt ?l ?c ?k; (case l => k_is); (case c => k_is); (case k => k_is))
    (case at_Field_before => k_is)
    (case fn_Field_before => k_is)
    (case D_Field_before => refine' N.defAt ?l ?c ?k; (case l => k_is); (case c => k_is); (case k => k_is))
    (case at_Field_best_ways => k_is)
    (case fn_Field_best_ways => k_is)
    (case D_Field_best_ways => refine' N.defAt ?l ?c ?k; (case l => k_is); (case c => k_is); (case k => k_is))
    (case at_Field_left => k_is)
    (case fn_Field_left => k_is)
    (case D_Field_left => refine' N.defAt ?l ?c ?k; (case l => k_is); (case c => k_is); (case k => k_is))
    (case at_Field_least_left => k_is)
    (case fn_Field_least_left => k_is)
    (case D_Field_least_left => refine' N.defAt ?l ?c ?k; (case l => k_is); (case c => k_is); (case k => k_is))
    (case at_Field_worst_value => k_is)
    (case fn_Field_worst_value => k_is)
    (case D_Field_worst_value => refine' N.defAt ?l ?c ?k; (case l => k_is); (case c => k_is); (case k => k_is))
    (case at_Field_worst_row => k_is)
    (case fn_Field_worst_row => k_is)
    (case D_Field_worst_row => refine' N.defAt ?l ?c ?k; (case l => k_is); (case c => k_is); (case k => k_is))
    (case at_Field_behind => k_is)
    (case fn_Field_behind => k_is)
    (case D_Field_behind => refine' N.defAt ?l ?c ?k; (case l => k_is); (case c => k_is); (case k => k_is))
    (case at_Field_carried => k_is)
    (case fn_Field_carried => k_is)
    (case D_Field_carried => refine' N.defAt ?l ?c ?k; (case l => k_is); (case c => k_is); (case k => k_is))
    (case n_Trial => k_is)
    (case cls_Trial => exact ⟨by k_is, by k_is, by k_is, by k_is⟩)
    (case mk_Trial => k_is)
    (case kc_Trial => k_is)
    (case i_Trial => k_is)
    (case fn_Trial_init => k_is)
    (case D_Trial_init => refine' N.defAt ?l ?c ?k; (case l => k_is); (case c => k_is); (case k => k_is))
    (case na_Trial_holes => k_is)
    (case na_Trial_names => k_is)
    (case na_Trial_lets => k_is)
    (case na_Trial_table => k_is)
    (case na_Trial_above => k_is)
    (case na_Trial_ranks => k_is)
    (case na_Trial_best => k_is)
    (case at_Trial_advance => k_is)
    (case fn_Trial_advance => k_is)
    (case D_Trial_advance => refine' N.defAt ?l ?c ?k; (case l => k_is); (case c => k_is); (case k => k_is))
    (case n_Words => k_is)
    (case cls_Words => exact ⟨by k_is, by k_is, by k_is, by k_is⟩)
    (case mk_Words => k_is)
    (case kc_Words => k_is)
    (case i_Words => k_is)
    (case fn_Words_init => k_is)
    (case D_Words_init => refine' N.defAt ?l ?c ?k; (case l => k_is); (case c => k_is); (case k => k_is))
    (case na_Words_words => k_is)
    (case na_Words_length => k_is)
    (case na_Words_passed => k_is)
    (case at_Words_ended => k_is)
    (case fn_Words_ended => k_is)
    (case D_Words_ended => refine' N.defAt ?l ?c ?k; (case l => k_is); (case c => k_is); (case k => k_is))
    (case at_Words_word => k_is)
    (case fn_Words_word => k_is)
    (case D_Words_word => refine' N.defAt ?l ?c ?k; (case l => k_is); (case c => k_is); (case k => k_is))
    (case at_Words_take => k_is)
    (case fn_Words_take => k_is)
    (case D_Words_take => refine' N.defAt ?l ?c ?k; (case l => k_is); (case c => k_is); (case k => k_is))
    (case n_Card => k_is)
    (case cls_Card => exact ⟨by k_is, by k_is, by k_is, by k_is⟩)
    (case mk_Card => k_is)
    (case kc_Card => k_is)
    (case i_Card => k_is)
    (case fn_Card_init => k_is)
    (case D_Card_init => refine' N.defAt ?l ?c ?k; (case l => k_is); (case c => k_is); (case k => k_is))
    (case na_Card_field => k_is)
    (case na_Card_state => k_is)
    (case na_Card_changes => k_is)
    (case at_Card_change => k_is)
    (case fn_Card_change => k_is)
    (case D_Card_change => refine' N.defAt ?l ?c ?k; (case l => k_is); (case c => k_is); (case k => k_is))
    (case at_Card_notch => k_is)
    (case fn_Card_notch => k_is)
    (case D_Card_notch => refine' N.defAt ?l ?c ?k; (case l => k_is); (case c => k_is); (case k => k_is))
    (case n_Desk => k_is)
    (case cls_Desk => exact ⟨by k_is, by k_is, by k_is, by k_is⟩)
    (case mk_Desk => k_is)
    (case kc_Desk => k_is)
    (case i_Desk => k_is)
    (case fn_Desk_init => k_is)
    (case D_Desk_init => refine' N.defAt ?l ?c ?k; (case l => k_is); (case c => k_is); (case k => k_is))
    (case na_Desk_field => k_is)
    (case na_Desk_card => k_is)
    (case at_Desk_lay => k_is)
    (case fn_Desk_lay => k_is)
    (case D_Desk_lay => refine' N.defAt ?l ?c ?k; (case l => k_is); (case c => k_is); (case k => k_is))
    (case at_Desk_renew => k_is)
    (case fn_Desk_renew => k_is)
    (case D_Desk_renew => refine' N.defAt ?l ?c ?k; (case l => k_is); (case c => k_is); (case k => k_is))
    (case at_Trial_best_ways => k_is)
    (case at_Trial_least_left => k_is)
    (case at_Trial_asked => k_is)
    (case at_Trial_asked_from => k_is)
    (case at_Trial_left => k_is)
    (case at_Trial_settle => k_is)
    (case at_Trial_state_count => k_is)
    (case n_Refusal => k_is)
    (case i_Refusal => k_is)
    (case e_Refusal => exact ⟨by kx_is, by kx_is, by k_is, by k_is, by k_is, by k_is, by k_is, by k_is, by k_is, by k_is, by k_is, by k_is, by k_is⟩)
    (case D_Refusal_init => refine' N.defAt ?l ?c ?k; (case l => k_is); (case c => k_is); (case k => k_is))
    (case n_NotBytes => k_is)
    (case i_NotBytes => k_is)
    (case e_NotBytes => exact ⟨by kx_is, by kx_is, by k_is, by k_is, by k_is, by k_is, by k_is, by k_is, by k_is, by k_is, by k_is, by k_is, by k_is⟩)
    (case D_NotBytes_init => refine' N.defAt ?l ?c ?k; (case l => k_is); (case c => k_is); (case k => k_is))
    (case n_OutOfRange => k_is)
    (case i_OutOfRange => k_is)
    (case e_OutOfRange => exact ⟨by kx_is, by kx_is, by k_is, by k_is, by k_is, by k_is, by k_is, by k_is, by k_is, by k_is, by k_is, by k_is, by k_is⟩)
    (case D_OutOfRange_init => refine' N.defAt ?l ?c ?k; (case l => k_is); (case c => k_is); (case k => k_is))
    (case n_BadList => k_is)
    (case i_BadList => k_is)
    (case e_BadList => exact ⟨by kx_is, by kx_is, by k_is, by k_is, by k_is, by k_is, by k_is, by k_is, by k_is, by k_is, by k_is, by k_is, by k_is⟩)
    (case D_BadList_init => refine' N.defAt ?l ?c ?k; (case l => k_is); (case c => k_is); (case k => k_is))
    (case n_NotThere => k_is)
    (case i_NotThere => k_is)
    (case e_NotThere => exact ⟨by kx_is, by kx_is, by k_is, by k_is, by k_is, by k_is, by k_is, by k_is, by k_is, by k_is, by k_is, by k_is, by k_is⟩)
    (case D_NotThere_init => refine' N.defAt ?l ?c ?k; (case l => k_is); (case c => k_is); (case k => k_is))
    (case n_NotAsked => k_is)
    (case i_NotAsked => k_is)
    (case e_NotAsked => exact ⟨by kx_is, by kx_is, by k_is, by k_is, by k_is, by k_is, by k_is, by k_is, by k_is, by k_is, by k_is, by k_is, by k_is⟩)
    (case D_NotAsked_init => refine' N.defAt ?l ?c ?k; (case l => k_is); (case c => k_is); (case k => k_is))
    (case n_HoleNotched => k_is)
    (case i_HoleNotched => k_is)
    (case e_HoleNotched => exact ⟨by kx_is, by kx_is, by k_is, by k_is, by k_is, by k_is, by k_is, by k_is, by k_is, by k_is, by k_is, by k_is, by k_is⟩)
    (case D_HoleNotched_init => refine' N.defAt ?l ?c ?k; (case l => k_is); (case c => k_is); (case k => k_is))
    (case n_WithoutWay => k_is)
    (case i_WithoutWay => k_is)
    (case e_WithoutWay => exact ⟨by kx_is, by kx_is, by k_is, by k_is, by k_is, by k_is, by k_is, by k_is, by k_is, by k_is, by k_is, by k_is, by k_is⟩)
    (case D_WithoutWay_init => refine' N.defAt ?l ?c ?k; (case l => k_is); (case c => k_is); (case k => k_is))
    (case n_TooManyTables => k_is)
    (case i_TooManyTables => k_is)
    (case e_TooManyTables => exact ⟨by kx_is, by kx_is, by k_is, by k_is, by k_is, by k_is, by k_is, by k_is, by k_is, by k_is, by k_is, by k_is, by k_is⟩)
    (case D_TooManyTables_init => refine' N.defAt ?l ?c ?k; (case l => k_is); (case c => k_is); (case k => k_is))
    (case n_Fault => k_is)
    (case i_Fault => k_is)
    (case e_Fault => exact ⟨by kx_is, by kx_is, by k_is, by k_is, by k_is, by k_is, by k_is, by k_is, by k_is, by k_is, by k_is, by k_is, by k_is⟩)
    (case D_Fault_init => refine' N.defAt ?l ?c ?k; (case l => k_is); (case c => k_is); (case k => k_is))
    (case ic_Refusal => k_is)
    (case ic_Fault => k_is)
    (case sb_FF => first | rfl | k_is)
    (case sb_NotBytes => k_is)
    (case sb_OutOfRange => k_is)
    (case sb_BadList => k_is)
    (case sb_NotThere => k_is)
    (case sb_NotAsked => k_is)
    (case sb_HoleNotched => k_is)
    (case sb_WithoutWay => k_is)
    (case sb_TooManyTables => k_is)
    (case sb_Fault => k_is)
    (case qa_Refusal => k_is)
    (case qr_Refusal => k_is)
    (case qf_Refusal => k_is)
    (case qa_Field => k_is)
    (case qr_Field => k_is)
    (case qf_Field => k_is)
    (case n_GIVEN => k_is)
    (case l_GIVEN => k_is)
    (case k_GIVEN => first | rfl | decide +kernel)
    (case g_0 => rfl)
    (case l_g0 => k_is)
    (case z_g0_ok => exact Nat.le_of_ble_eq_true rfl)
    (case v_g0 => exact .nil)
    (case g_1 => rfl)
    (case l_g1 => k_is)
    (case z_g1_ok => exact Nat.le_of_ble_eq_true rfl)
    (case v_g1 => exact .cons ⟨_, rfl⟩ (.nil))
    (case g_2 => rfl)
    (case l_g2 => k_is)
    (case z_g2_ok => exact Nat.le_of_ble_eq_true rfl)
    (case v_g2 => exact .cons ⟨_, rfl⟩ (.nil))
    (case g_3 => rfl)
    (case l_g3 => k_is)
    (case z_g3_ok => exact Nat.le_of_ble_eq_true rfl)
    (case v_g3 => exact .nil)
    (case g_4 => rfl)
    (case l_g4 => k_is)
    (case z_g4_ok => exact Nat.le_of_ble_eq_true rfl)
    (case v_g4 => exact .nil)
    (case g_5 => rfl)
    (case l_g5 => k_is)
    (case z_g5_ok => exact Nat.le_of_ble_eq_true rfl)
    (case v_g5 => exact .cons ⟨_, rfl⟩ (.nil))
    (case g_6 => rfl)
    (case l_g6 => k_is)
    (case z_g6_ok => exact Nat.le_of_ble_eq_true rfl)
    (case v_g6 => exact .cons ⟨_, rfl⟩ (.cons ⟨_, rfl⟩ (.nil)))
    (case g_7 => rfl)
    (case l_g7 => k_is)
    (case z_g7_ok => exact Nat.le_of_ble_eq_true rfl)
    (case v_g7 => exact .nil)
    (case g_8 => rfl)
    (case l_g8 => k_is)
    (case z_g8_ok => exact Nat.le_of_ble_eq_true rfl)
    (case v_g8 => exact .cons ⟨_, rfl⟩ (.cons ⟨_, rfl⟩ (.nil)))
    (case g_9 => rfl)
    (case l_g9 => k_is)
    (case z_g9_ok => exact Nat.le_of_ble_eq_true rfl)
    (case v_g9 => exact .cons ⟨_, rfl⟩ (.nil))
    (case g_10 => rfl)
    (case l_g10 => k_is)
    (case z_g10_ok => exact Nat.le_of_ble_eq_true rfl)
    (case v_g10 => exact .cons ⟨_, rfl⟩ (.cons ⟨_, rfl⟩ (.nil)))
    (case g_11 => rfl)
    (case l_g11 => k_is)
    (case z_g11_ok => exact Nat.le_of_ble_eq_true rfl)
    (case v_g11 => exact .cons ⟨_, rfl⟩ (.nil))
    (case g_12 => rfl)
    (case l_g12 => k_is)
    (case z_g12_ok => exact Nat.le_of_ble_eq_true rfl)
    (case v_g12 => exact .cons ⟨_, rfl⟩ (.nil))
    (case g_13 => rfl)
    (case l_g13 => k_is)
    (case z_g13_ok => exact Nat.le_of_ble_eq_true rfl)
    (case v_g13 => exact .cons ⟨_, rfl⟩ (.cons ⟨_, rfl⟩ (.nil)))
    (case g_14 => rfl)
    (case l_g14 => k_is)
    (case z_g14_ok => exact Nat.le_of_ble_eq_true rfl)
    (case v_g14 => exact .cons ⟨_, rfl⟩ (.cons ⟨_, rfl⟩ (.nil)))
    (case g_15 => rfl)
    (case l_g15 => k_is)
    (case z_g15_ok => exact Nat.le_of_ble_eq_true rfl)
    (case v_g15 => exact .cons ⟨_, rfl⟩ (.cons ⟨_, rfl⟩ (.nil)))
    (case g_16 => rfl)
    (case l_g16 => k_is)
    (case z_g16_ok => exact Nat.le_of_ble_eq_true rfl)
    (case v_g16 => exact .cons ⟨_, rfl⟩ (.cons ⟨_, rfl⟩ (.nil)))
    (case g_17 => rfl)
    (case l_g17 => k_is)
    (case z_g17_ok => exact Nat.le_of_ble_eq_true rfl)
    (case v_g17 => exact .nil)
    (case g_18 => rfl)
    (case l_g18 => k_is)
    (case z_g18_ok => exact Nat.le_of_ble_eq_true rfl)
    (case v_g18 => exact .cons ⟨_, rfl⟩ (.nil))
    (case g_19 => rfl)
    (case l_g19 => k_is)
    (case z_g19_ok => exact Nat.le_of_ble_eq_true rfl)
    (case v_g19 => exact .cons ⟨_, rfl⟩ (.nil))
    (case g_20 => rfl)
    (case l_g20 => k_is)
    (case z_g20_ok => exact Nat.le_of_ble_eq_true rfl)
    (case v_g20 => exact .nil)
    (case g_21 => rfl)
    (case l_g21 => k_is)
    (case z_g21_ok => exact Nat.le_of_ble_eq_true rfl)
    (case v_g21 => exact .cons ⟨_, rfl⟩ (.nil))
    (case n_DOERS => k_is)
    (case l_DOERS => k_is)
    (case k_DOERS => first | rfl | decide +kernel)
    (case d_0 => rfl)
    (case d_1 => rfl)
    (case d_2 => rfl)
    (case d_3 => rfl)
    (case d_4 => rfl)
    (case d_5 => rfl)
    (case d_6 => rfl)
    (case d_7 => rfl)
    (case d_8 => rfl)
    (case d_9 => rfl)
    (case d_10 => rfl)
    (case d_11 => rfl)
    (case d_12 => rfl)
    (case d_13 => rfl)
    (case d_14 => rfl)
    (case d_15 => rfl)
    (case d_16 => rfl)
    (case d_17 => rfl)
    (case d_18 => rfl)
    (case d_19 => rfl)
    (case d_20 => rfl)
    (case d_21 => rfl)
    (case n_LISTS => k_is)
    (case l_LISTS => k_is)
    (case z_LISTS_ok => exact Nat.le_of_ble_eq_true rfl)
    (case v_LISTS => exact .cons ⟨_, rfl⟩ (.cons ⟨_, rfl⟩ (.cons ⟨_, rfl⟩ (.cons ⟨_, rfl⟩ (.nil)))))
    (case n_RANGES => k_is)
    (case l_RANGES => k_is)
    (case k_RANGES => exact ⟨⟨_, _, rfl, rfl⟩, ⟨_, _, rfl, rfl⟩, ⟨_, _, rfl, rfl⟩, trivial⟩)
    (case low_RANGES => first | rfl | decide | decide +kernel)
    (case r_0 => k_is)
    (case l_r0 => k_is)
    (case z_r0_ok => exact Nat.le_of_ble_eq_true rfl)
    (case v_r0 => exact .cons ⟨_, rfl⟩ (.cons ⟨_, rfl⟩ (.nil)))
    (case r_1 => k_is)
    (case l_r1 => k_is)
    (case z_r1_ok => exact Nat.le_of_ble_eq_true rfl)
    (case v_r1 => exact .cons ⟨_, rfl⟩ (.cons ⟨_, rfl⟩ (.nil)))
    (case r_2 => k_is)
    (case l_r2 => k_is)
    (case z_r2_ok => exact Nat.le_of_ble_eq_true rfl)
    (case v_r2 => exact .cons ⟨_, rfl⟩ (.cons ⟨_, rfl⟩ (.nil)))
    (case rn_state => k_is)
    (case rn_value => k_is)
    (case rn_hole => k_is)
    (case rn_row => k_is)
    (case rn_labels => k_is)
    (case rn_codes => k_is)
    (case rn_text => k_is)
  case S =>
    intro K H xs a hO hwi hask hx
    cases hx with
    | cons h1 h2 =>
      cases h2
      cases h1 with
      | lst hs ha =>
        have e := L2.ints_dw a.1 _ ha
        subst e
        have hlen : a.1.length ≤ 16000 := N.head_len (Bool.and_eq_true_iff.mp (show (PySem.W.Codec.within (.list 0 16000 (.int (-9223372036854775808) 9223372036854775807)) a.1 && true) = true from hwi)).1
        exact N.asked_sp hs hlen hask (fun H' p hp => .lst (L2.SqL.of hp) (L2.dw_ints _))
