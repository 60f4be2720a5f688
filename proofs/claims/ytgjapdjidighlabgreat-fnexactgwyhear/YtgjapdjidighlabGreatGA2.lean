/- Which row is a walker's; what a book that is ok says; conditions: those typed. -/
import Derived.Test.YtgjapdjidighlabGreatGA1
import Derived.Test.YtgjapdjidighlabGreatGB3
namespace Go.Proofs.YtgjapdjidighlabGreat
open Go.RowKit Go.Deep
set_option linter.unusedVariables false
def seek (n : Nat) (Z : Nat → Nat → Int) (who : Int) : Option Nat := (List.range n).find? (fun k => Z k 0 == who)
theorem seek_none {n : Nat} {Z : Nat → Nat → Int} {who : Int} (h : seek n Z who = none) : ∀ j, j < n → ¬ Z j 0 = who := by
  intro j hj e
  have := List.find?_eq_none.1 h j (by simpa using hj)
  simp [e] at this
theorem seek_some {n i : Nat} {Z : Nat → Nat → Int} {who : Int} (h : seek n Z who = some i) : i < n ∧ Z i 0 = who ∧ ∀ j, j < i → ¬ Z j 0 = who := by
  have h1 := List.find?_some h
  obtain ⟨_, h2, h3⟩ := List.find?_range_eq_some.1 h
  exact ⟨by simpa using h2, by simpa using h1, fun j hj => by have := h3 j hj; simpa using this⟩
theorem seek_at {n i : Nat} {Z : Nat → Nat → Int} {who : Int} (hi : i < n) (h : Z i 0 = who) (hf : ∀ j, j < i → ¬ Z j 0 = who) : seek n Z who = some i := by
  refine List.find?_range_eq_some.2 ⟨by simpa using h, by simpa using hi, fun j hj => ?_⟩
  simpa using hf j hj
theorem seek_no {n : Nat} {Z : Nat → Nat → Int} {who : Int} (h : ∀ j, j < n → ¬ Z j 0 = who) : seek n Z who = none :=
  List.find?_eq_none.2 (fun j hj => by have := h j (by simpa using hj); simpa using this)
theorem book_row {c d : Int} {n : Nat} {Z : Nat → Nat → Int} (h : bookB c d n Z = true) : ∀ k, k < n → rowB c (Z k) = true ∧ (k = 0 ∨ Z (k - 1) 0 < Z k 0) := by
  intro k hk
  simp only [bookB, Bool.and_eq_true, decide_eq_true_eq] at h
  have := h.2 k hk
  simp only [stepR, Bool.and_eq_true, Bool.or_eq_true, decide_eq_true_eq] at this
  exact this
theorem book_key {c d : Int} {n : Nat} {Z : Nat → Nat → Int} (h : bookB c d n Z = true) : ∀ k, k < n → 1 ≤ Z k 0 ∧ Z k 0 ≤ 9 := by
  intro k hk
  have := (book_row h k hk).1
  simp only [rowB, inB, Bool.and_eq_true, decide_eq_true_eq] at this
  exact this.1
theorem book_rise {c d : Int} {n : Nat} {Z : Nat → Nat → Int} (h : bookB c d n Z = true) : ∀ a b, a < b → b < n → Z a 0 < Z b 0 := by
  intro a b hab
  obtain ⟨m, rfl⟩ : ∃ m, b = a + 1 + m := ⟨b - (a + 1), by omega⟩
  clear hab
  induction m with
  | zero =>
    intro hb
    rcases (book_row h (a + 1) hb).2 with e | e
    · omega
    · exact e
  | succ m ih =>
    intro hb
    have h1 := ih (by omega)
    rcases (book_row h (a + 1 + (m + 1)) hb).2 with e | e
    · omega
    · have e2 : Z (a + 1 + m) 0 < Z (a + 1 + (m + 1)) 0 := e
      omega
end Go.Proofs.YtgjapdjidighlabGreat
