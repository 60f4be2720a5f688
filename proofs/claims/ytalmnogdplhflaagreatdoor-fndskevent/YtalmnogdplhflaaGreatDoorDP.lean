/- A line with three words more behind it is none; conditions: those typed. -/
import Derived.Test.YtalmnogdplhflaaGreatDoorDG
import Derived.Deep.DeepCutAuto
namespace Go.Proofs.YtalmnogdplhflaaGreatDoor
open Go.RowKit Go.Deep
set_option linter.unusedVariables false
set_option maxRecDepth 20000
theorem words_cat : ∀ l r : List UInt8, words (l ++ 32 :: r) = words l ++ words r
  | [], r => by simp [words]
  | b :: l, r => by
    have ih := words_cat l r
    obtain ⟨w, ws, e⟩ := words_cons l
    by_cases hb : b = 32
    · subst hb
      simp only [List.cons_append]
      rw [words, if_pos rfl, ih]
      conv => rhs; rw [words, if_pos rfl]
      rfl
    · simp only [List.cons_append]
      rw [words, if_neg hb, ih, e]
      conv => rhs; rw [words, if_neg hb, e]
      rfl
theorem ord_words {s : ByteArray} {p0 p1 p2 p3 p4 : Int} (h : ordText p0 p1 p2 p3 p4 = s) (h0 : ¬ s.size = 0) : (words s.data.toList).length ≤ 5 := by
  unfold ordText at h
  split at h
  · rename_i hb
    obtain ⟨hw, hq, hk⟩ := ordB_true hb
    obtain ⟨gq, _⟩ := good_digits p0 (by omega) (by omega)
    obtain ⟨gs, _⟩ := good_digits p1 (by omega) (by omega)
    have hc : p2 = 1 ∨ p2 = 2 ∨ p2 = 3 ∨ p2 = 4 ∨ p2 = 5 ∨ p2 = 6 := by
      by_cases h1 : p2 = 1 ∨ p2 = 2 ∨ p2 = 3 ∨ p2 = 4 ∨ p2 = 5 ∨ p2 = 6
      · exact h1
      · have n1 : p2 ≠ 1 := by omega
        have n2 : p2 ≠ 2 := by omega
        have n3 : p2 ≠ 3 := by omega
        have n4 : p2 ≠ 4 := by omega
        have n5 : p2 ≠ 5 := by omega
        have n6 : p2 ≠ 6 := by omega
        simp [kindB, n1, n2, n3, n4, n5, n6] at hk
    clear hb
    have two : ∀ X : List UInt8, s.data.toList = Lib.decDigits p0.toNat ++ 32 :: (Lib.decDigits p1.toNat ++ 32 :: X) → (words X).length ≤ 3 → (words s.data.toList).length ≤ 5 := by
      intro X e hX
      rw [e, words_app _ _ gq, words_app _ _ gs]
      simp; omega
    rcases hc with rfl | rfl | rfl | rfl | rfl | rfl
    · have hk' : sideB p3 = true ∧ p4 = 0 := by simpa [kindB, inB, and_assoc] using hk
      refine two ([115, 116, 101, 112] ++ 32 :: (wordOf p3).data.toList) (by rw [← h]; simp [OH, OH1, OH2, tailOf, tstep, DD, ByteArray.data_append]) ?_
      rw [words_app _ _ (by decide), words_last _ (side_word hk'.1).2.1]; simp
    · have hk' : 1 ≤ p3 ∧ p3 ≤ 9 ∧ ¬ p3 = p0 ∧ 1 ≤ p4 ∧ p4 ≤ 9 := by simpa [kindB, inB, and_assoc] using hk
      refine two ([103, 105, 118, 101] ++ 32 :: (Lib.decDigits p3.toNat ++ 32 :: Lib.decDigits p4.toNat)) (by rw [← h]; simp [OH, OH1, OH2, tailOf, tgive, DD, ByteArray.data_append]) ?_
      rw [words_app _ _ (by decide), words_app _ _ (good_digits p3 (by omega) (by omega)).1, words_last _ (good_digits p4 (by omega) (by omega)).1]; simp
    · have hk' : p3 = 0 ∧ 1 ≤ p4 ∧ p4 ≤ 9 := by simpa [kindB, inB, and_assoc] using hk
      refine two ([100, 114, 111, 112] ++ 32 :: Lib.decDigits p4.toNat) (by rw [← h]; simp [OH, OH1, OH2, tailOf, tdrop, DD, ByteArray.data_append]) ?_
      rw [words_app _ _ (by decide), words_last _ (good_digits p4 (by omega) (by omega)).1]; simp
    · have hk' : p3 = 0 ∧ 1 ≤ p4 ∧ p4 ≤ 9 := by simpa [kindB, inB, and_assoc] using hk
      refine two ([112, 105, 99, 107] ++ 32 :: Lib.decDigits p4.toNat) (by rw [← h]; simp [OH, OH1, OH2, tailOf, tpick, DD, ByteArray.data_append]) ?_
      rw [words_app _ _ (by decide), words_last _ (good_digits p4 (by omega) (by omega)).1]; simp
    · have hk' : sideB p3 = true ∧ 1 ≤ p4 ∧ p4 ≤ 9 := by simpa [kindB, inB, and_assoc] using hk
      refine two ([116, 104, 114, 111, 119] ++ 32 :: ((wordOf p3).data.toList ++ 32 :: Lib.decDigits p4.toNat)) (by rw [← h]; simp [OH, OH1, OH2, tailOf, tthrow, DD, ByteArray.data_append]) ?_
      rw [words_app _ _ (by decide), words_app _ _ (side_word hk'.1).2.1, words_last _ (good_digits p4 (by omega) (by omega)).1]; simp
    · refine two [114, 101, 115, 116] (by rw [← h]; simp [OH, OH1, OH2, tailOf, trest, DD, ByteArray.data_append]) ?_
      rw [words_last _ (by decide)]; simp
  · exact absurd (by rw [← h]; rfl) h0
/-- A text in which too many words are, or whose third one is no kind, is no order's. -/
theorem no_ord2 {X : ByteArray} {y q : List UInt8} (hy : ∀ b ∈ y, b ≠ 32) (hX : X.data.toList = y ++ 32 :: 49 :: 32 :: q) (hq : 4 ≤ (words q).length ∨ ∃ ws, words q = [49] :: ws) : ∀ p0 p1 p2 p3 p4 : Int, ordText p0 p1 p2 p3 p4 = X → X.size = 0 := by
  intro p0 p1 p2 p3 p4 h
  refine Classical.byContradiction fun h0 => ?_
  have e : words X.data.toList = y :: [49] :: words q := by
    rw [hX, words_app y _ hy, show (49 :: 32 :: q : List UInt8) = [49] ++ 32 :: q from rfl, words_app [49] q (by decide)]
  rcases hq with hq | ⟨ws, ew⟩
  · have := ord_words h h0
    rw [e] at this
    simp at this
    omega
  · obtain ⟨f, _, h3, hf, _⟩ := ord_back h h0
    have e2 : wordB X 2 = ⟨#[49]⟩ := by
      unfold wordB
      rw [e, ew]; rfl
    rw [e2, show readerOf (⟨#[49]⟩ : ByteArray) = none by decide +kernel] at hf
    cases hf
theorem nums_many {r : List UInt8} (h : 3 ≤ (words r).length) : ¬ (numsOf r).length = 1 ∧ ¬ (numsOf r).length = 2 := by
  unfold numsOf
  split
  · rw [List.length_map]; omega
  · simp
theorem im_again (s X : ByteArray) (hX : X.data.toList = s.data.toList ++ 32 :: [49, 32, 49, 32, 49]) (w : World) (hE : Env w) :
    Calls Tryz.prog 5 #[.string X] w fun e w' => e = .returned (.tuple #[.agg #[.int .i64 0, .int .i64 0, .int .i64 0, .int .i64 0, .int .i64 0], .bool false]) ∧ Below w.heap.size w w' := by
  have hone : words [49, 32, 49, 32, 49] = [[49], [49], [49]] := by decide
  by_cases hs : X.size ≤ 100
  · obtain ⟨x, r, hc, hr⟩ : ∃ x r, Lib.cut X.data.toList [32] = (x, r, true) ∧ (r = [49, 32, 49, 32, 49] ∨ ∃ s', r = s' ++ 32 :: [49, 32, 49, 32, 49]) := by
      rcases blank_or s.data.toList with hn | ⟨x, s', e, hx⟩
      · exact ⟨_, _, by rw [hX]; exact cut_app _ _ hn, .inl rfl⟩
      · refine ⟨x, s' ++ 32 :: [49, 32, 49, 32, 49], ?_, .inr ⟨s', rfl⟩⟩
        rw [hX, e, List.append_assoc, List.cons_append]
        exact cut_app _ _ hx
    have hw3 : 3 ≤ (words r).length := by
      rcases hr with rfl | ⟨s', rfl⟩
      · rw [hone]; simp
      · rw [words_cat, hone]; simp
    rcases kind_in ⟨x.toArray⟩ with h | h | h | h
    · obtain ⟨y, q, e2, hy, hq⟩ : ∃ y q, r = y ++ 32 :: q ∧ (∀ b ∈ y, b ≠ 32) ∧ (4 ≤ (words q).length ∨ ∃ ws, words q = [49] :: ws) := by
        rcases hr with rfl | ⟨s', rfl⟩
        · exact ⟨[49], [49, 32, 49], rfl, by decide, .inr ⟨[[49]], by decide⟩⟩
        · rcases blank_or s' with hn | ⟨y, s'', e, hy⟩
          · exact ⟨s', [49, 32, 49, 32, 49], rfl, hn, .inr ⟨[[49], [49]], hone⟩⟩
          · refine ⟨y, s'' ++ 32 :: [49, 32, 49, 32, 49], by rw [e, List.append_assoc, List.cons_append], hy, .inl ?_⟩
            rw [words_cat, hone]
            obtain ⟨a, b, e⟩ := words_cons s''
            rw [e]; simp
      subst e2
      have hXX : ((⟨(Lib.cut (y ++ 32 :: q) [32]).1.toArray⟩ : ByteArray) ++ ⟨#[32, 49, 32]⟩) ++ ⟨(Lib.cut (y ++ 32 :: q) [32]).2.1.toArray⟩ = (⟨y.toArray⟩ ++ MID) ++ ⟨q.toArray⟩ := by rw [cut_app y q hy]; rfl
      have hT := mid_text y q
      generalize ((⟨y.toArray⟩ : ByteArray) ++ MID) ++ ⟨q.toArray⟩ = Y at hXX hT
      exact im_ask X hs x _ true hc 2 h rfl 0 0 0 0 0 false Y hXX (fun w hE => io_no (no_ord2 hy hT hq) w hE) w hE
    · exact im_num X hs x r true hc 0 h (by omega) _ _ _ _ _ _ (fun base v w ho => num_no 0 _ (.inl rfl) base v w ho) w hE
    · exact im_num X hs x r true hc _ rfl (by omega) _ _ _ _ _ _ (fun base v w ho => num_no _ _ (.inr (.inl ⟨h, (nums_many hw3).2⟩)) base v w ho) w hE
    · exact im_num X hs x r true hc _ rfl (by omega) _ _ _ _ _ _ (fun base v w ho => num_no _ _ (.inr (.inr ⟨h, (nums_many hw3).1⟩)) base v w ho) w hE
  · exact im_long X (by omega) w
/-- One line, read. -/
theorem im_fall (w : World) (hE : Env w) : Calls Tryz.prog 5 #[.string ⟨#[102, 97, 108, 108, 32, 50]⟩] w fun e w' => e = .returned (.tuple #[.agg #[.int .i64 8, .int .i64 2, .int .i64 0, .int .i64 0, .int .i64 0], .bool true]) ∧ Below w.heap.size w w' := by
  have hn : numsOf [50] = [2] := by decide +kernel
  exact im_num ⟨#[102, 97, 108, 108, 32, 50]⟩ (by decide +kernel) [102, 97, 108, 108] [50] true (by decide +kernel) 8 (by decide +kernel) (by omega) 8 2 0 0 0 true (fun base v w ho => num_one 8 2 (by omega) _ hn base v w ho) w hE
end Go.Proofs.YtalmnogdplhflaaGreatDoor
