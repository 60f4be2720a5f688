/- Plain facts: the two readers read the same texts, and the same walkers in them; no Go text in sight; conditions: none. -/
import Derived.Test.YtpfemjenhnnfmaaDoorRead4
namespace Go.Proofs.YtpfemjenhnnfmaaDoor
open Go.RowKit
set_option linter.unusedVariables false
set_option maxRecDepth 20000

theorem text_in {i a n s l : Int} {t : ByteArray} (h : textOf i a n s l = t) (h0 : ¬ t.size = 0) : boundsB i n s l = true ∧ inB a 0 31 = true ∧ t = X9 i a n s l := by
  unfold textOf at h
  split at h
  · rename_i g; exact ⟨g.1, g.2, h.symm⟩
  · subst h; exact absurd rfl h0

/-- A text of a walker is read back by both. -/
theorem back {i a n s l : Int} (hb : boundsB i n s l = true) (ha : inB a 0 31 = true) :
    (X9 i a n s l).size ≤ 100 ∧ (words (X9 i a n s l).data.toList).length = 10 ∧
    (vF (X9 i a n s l) 1 = i ∧ vF (X9 i a n s l) 3 = a ∧ vF (X9 i a n s l) 5 = n ∧ vF (X9 i a n s l) 7 = s ∧ vF (X9 i a n s l) 9 = l) ∧
    (uF (X9 i a n s l) 1 = i ∧ uF (X9 i a n s l) 3 = a ∧ uF (X9 i a n s l) 5 = n ∧ uF (X9 i a n s l) 7 = s ∧ uF (X9 i a n s l) 9 = l) := by
  obtain ⟨hw, hs⟩ := text_words hb ha
  simp only [boundsB, Bool.and_eq_true, inB_true] at hb
  have ha' := inB_true.1 ha
  obtain ⟨⟨i1, i2⟩, ⟨n1, n2⟩, ⟨s1, s2⟩, l1, l2⟩ := hb
  obtain ⟨_, _, vi, ui⟩ := good_digits i (by omega) (by omega)
  obtain ⟨_, _, va, ua⟩ := good_digits a (by omega) (by omega)
  obtain ⟨_, _, vn, un⟩ := good_digits n (by omega) (by omega)
  obtain ⟨_, _, vs, us⟩ := good_digits s (by omega) (by omega)
  obtain ⟨_, _, vl, ul⟩ := good_digits l (by omega) (by omega)
  refine ⟨hs, by rw [hw]; rfl, ?_, ?_⟩
  · unfold vF
    rw [hw]
    exact ⟨vi, va, vn, vs, vl⟩
  · unfold uF
    rw [if_pos hs, if_pos hs, if_pos hs, if_pos hs, if_pos hs, hw]
    exact ⟨ui, ua, un, us, ul⟩

theorem agree_yes {s : ByteArray} (h : vOk s) : (¬ s.size = 0 ∧ uText s = s) ∧ (uF s 1 = vF s 1 ∧ uF s 3 = vF s 3 ∧ uF s 5 = vF s 5 ∧ uF s 7 = vF s 7 ∧ uF s 9 = vF s 9) := by
  obtain ⟨h1, h2, h3⟩ := h
  have h0 : ¬ s.size = 0 := by
    intro e
    have : s.data.toList = [] := List.eq_nil_of_length_eq_zero (by rw [size_len]; exact e)
    rw [this] at h2
    simp [words] at h2
  obtain ⟨hb, ha, e⟩ := text_in h3 h0
  obtain ⟨_, _, ⟨v1, v3, v5, v7, v9⟩, u1, u3, u5, u7, u9⟩ := back hb ha
  rw [← e] at u1 u3 u5 u7 u9
  refine ⟨⟨h0, ?_⟩, u1, u3, u5, u7, u9⟩
  unfold uText
  rw [u1, u3, u5, u7, u9]
  exact h3

theorem agree_no {s : ByteArray} (h : ¬ vOk s) : ¬ (¬ s.size = 0 ∧ uText s = s) := by
  rintro ⟨h0, h3⟩
  obtain ⟨hb, ha, e⟩ := text_in h3 h0
  obtain ⟨hs, hl, ⟨v1, v3, v5, v7, v9⟩, _⟩ := back hb ha
  rw [← e] at hs hl v1 v3 v5 v7 v9
  refine h ⟨hs, hl, ?_⟩
  unfold vText
  rw [v1, v3, v5, v7, v9]
  exact h3

theorem spec_yes (s : ByteArray) (w : World) (h : vOk s) :
    Calls Tryd.prog 21 #[.string s] w fun e w' => e = .returned (.tuple #[.agg #[.int .i64 (vF s 1), .int .i64 (vF s 3), .int .i64 (vF s 5), .int .i64 (vF s 7), .int .i64 (vF s 9)], .bool true]) ∧ Below w.heap.size w w' := by
  refine (read_spec s w).mono ?_
  obtain ⟨hy, u1, u3, u5, u7, u9⟩ := agree_yes h
  rintro e w' ⟨⟨_, _, rfl⟩ | ⟨hn, _⟩, hb⟩
  · exact ⟨by rw [u1, u3, u5, u7, u9], hb⟩
  · exact absurd hy hn
theorem spec_no (s : ByteArray) (w : World) (h : ¬ vOk s) :
    Calls Tryd.prog 21 #[.string s] w fun e w' => e = .returned (.tuple #[.agg #[.int .i64 0, .int .i64 0, .int .i64 0, .int .i64 0, .int .i64 0], .bool false]) ∧ Below w.heap.size w w' := by
  refine (read_spec s w).mono ?_
  have hn := agree_no h
  rintro e w' ⟨⟨h0, h1, _⟩ | ⟨_, rfl⟩, hb⟩
  · exact absurd ⟨h0, h1⟩ hn
  · exact ⟨rfl, hb⟩
end Go.Proofs.YtpfemjenhnnfmaaDoor
