/- Both texts are one; conditions: those typed. -/
import Derived.Test.YtbiccpmaoagalaaDoorLT8
import Derived.Deep.RegionHeld3
import Derived.Deep.QuietTactic
import Derived.BigQuiet
import Derived.Deep.Cut
namespace Go.Proofs.YtbiccpmaoagalaaDoor
open Go.RowKit Go.Deep
set_option linter.unusedVariables false

theorem ba_ext {a b : ByteArray} (h : a.data.toList = b.data.toList) : a = b := by
  cases a with
  | mk x =>
    cases b with
    | mk y =>
      have : x = y := Array.toList_inj.1 h
      rw [this]
theorem sent2 (a b : ByteArray) (ea : a.toList.isEmpty = false) : sentB [a, b] = if b.toList.isEmpty = true then ⟨#[]⟩ else (a ++ SP) ++ b := by
  cases eb : b.toList.isEmpty
  · have h : sentB [a, b] = ⟨(Lib.join [a.data.toList, b.data.toList] [32]).toArray⟩ := by simp [sentB, ea, eb]
    rw [h, if_neg (by simp)]
    apply ba_ext
    simp [Lib.join, List.intercalate, ByteArray.data_append]
  · simp [sentB, ea, eb]
theorem sent3 (a b c : ByteArray) (ea : a.toList.isEmpty = false) : sentB [a, b, c] = if (b.toList.isEmpty || c.toList.isEmpty) = true then ⟨#[]⟩ else (((a ++ SP) ++ b) ++ SP) ++ c := by
  cases eb : b.toList.isEmpty
  · cases ec : c.toList.isEmpty
    · have h : sentB [a, b, c] = ⟨(Lib.join [a.data.toList, b.data.toList, c.data.toList] [32]).toArray⟩ := by simp [sentB, ea, eb, ec]
      rw [h, if_neg (by simp)]
      apply ba_ext
      simp [Lib.join, List.intercalate, ByteArray.data_append]
    · simp [sentB, ea, eb, ec]
  · simp [sentB, ea, eb]
theorem word_empty (s : Int) : (wordOf s).toList.isEmpty = !inB s 0 1 := by
  unfold wordOf
  by_cases h0 : s = 0
  · subst h0; decide +kernel
  by_cases h1 : s = 1
  · subst h1; decide +kernel
  rw [if_neg h0, if_neg h1]
  have : inB s 0 1 = false := by
    cases h : inB s 0 1
    · rfl
    · simp [inB] at h; omega
  rw [this]
  decide +kernel
theorem dd_empty (n : Int) : (DD n).toList.isEmpty = false := by
  unfold DD
  rw [ByteArray.toList_eq]
  unfold Lib.decDigits
  split <;> simp
theorem ordText_size_pos {p0 p1 p2 p3 p4 : Int} (h : ordB p0 p1 p2 p3 p4 = true) : ¬ (ordText p0 p1 p2 p3 p4).size = 0 := by
  have z3 : SP.size = 1 := by decide +kernel
  unfold ordText
  rw [if_pos h]
  simp only [ByteArray.size_append, OH]
  omega
theorem ord_empty (p0 p1 p2 p3 p4 : Int) : (ordText p0 p1 p2 p3 p4).toList.isEmpty = !ordB p0 p1 p2 p3 p4 := by
  cases h : ordB p0 p1 p2 p3 p4
  · have e : ordText p0 p1 p2 p3 p4 = ⟨#[]⟩ := by simp [ordText, h]
    rw [e]; decide +kernel
  · have hp := ordText_size_pos h
    rw [ByteArray.toList_eq]
    cases hq : (ordText p0 p1 p2 p3 p4).data.toList.isEmpty
    · rfl
    · exact absurd (by rw [List.isEmpty_iff] at hq; rw [← ByteArray.size_data, ← Array.length_toList, hq]; rfl) hp
theorem eqK1_eq (r : Nat → Int) : eqK1 r = (r 6 == 0 && (noP r && r 15 == 0)) := by simp only [eqK1, noP, Bool.and_assoc]
theorem eqK2_eq (r : Nat → Int) : eqK2 r = (noO r && r 15 == 0) := by simp only [eqK2, noO, Bool.and_assoc]
theorem eqK3_eq (r : Nat → Int) : eqK3 r = (noO r && noP r) := by simp only [eqK3, noO, noP, Bool.and_assoc]
theorem text_agree (k : Int) (r : Nat → Int) : logText k r = modText k r := by
  unfold logText modText
  by_cases h1 : k = 1
  · rw [if_pos h1, if_pos h1, eqK1_eq, sent2 _ _ (by decide +kernel), ord_empty]
    have e : ((⟨#[100, 111]⟩ : ByteArray) ++ SP) = (⟨#[100, 111, 32]⟩ : ByteArray) := by decide +kernel
    rw [e]
    generalize (r 6 == 0 && (noP r && r 15 == 0)) = x
    cases ordB (r 1) (r 2) (r 3) (r 4) (r 5) <;> cases x <;> simp
  rw [if_neg h1, if_neg h1]
  by_cases h2 : k = 2
  · rw [if_pos h2, if_pos h2, eqK2_eq, sent3 _ _ _ (by decide +kernel), word_empty]
    have e : ((⟨#[105, 110]⟩ : ByteArray) ++ SP) = (⟨#[105, 110, 32]⟩ : ByteArray) := by decide +kernel
    rw [e]
    generalize (r 15 == 0) = x
    cases noO r <;> cases x <;> cases inB (r 6) 0 1 <;> cases (pclText (r 7) (r 8) (r 9) (r 10) (r 11) (r 12) (r 13) (r 14)).toList.isEmpty <;> simp
  rw [if_neg h2, if_neg h2]
  by_cases h3 : k = 3
  · rw [if_pos h3, if_pos h3, eqK3_eq, sent3 _ _ _ (by decide +kernel), word_empty, dd_empty]
    have e : ((⟨#[97, 99, 107]⟩ : ByteArray) ++ SP) = (⟨#[97, 99, 107, 32]⟩ : ByteArray) := by decide +kernel
    rw [e]
    cases noO r <;> cases noP r <;> cases inB (r 6) 0 1 <;> cases inB (r 15) 1 5000 <;> simp
  rw [if_neg h3, if_neg h3]
end Go.Proofs.YtbiccpmaoagalaaDoor
