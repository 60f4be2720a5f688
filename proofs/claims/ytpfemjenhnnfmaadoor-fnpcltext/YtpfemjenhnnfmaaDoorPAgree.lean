/- Plain facts: the two readers of parcels try the same parcel at a text of a parcel; no Go text in sight; conditions: none. -/
import Derived.Test.YtpfemjenhnnfmaaDoorPRead2
import Derived.Test.YtpfemjenhnnfmaaDoorPRead3
import Derived.Test.YtpfemjenhnnfmaaDoorPDig
namespace Go.Proofs.YtpfemjenhnnfmaaDoor
open Go.RowKit
set_option linter.unusedVariables false
set_option maxRecDepth 20000

theorem good_digits4 (n : Int) (h0 : 0 ≤ n) (h1 : n ≤ 4999) : (∀ b ∈ Lib.decDigits n.toNat, b ≠ 32) ∧ (Lib.decDigits n.toNat).length ≤ 4 ∧ atoiV (Lib.decDigits n.toNat) = n ∧ numF (Lib.decDigits n.toNat) = n := by
  have g := digits_all4 n.toNat (by omega)
  unfold goodDigits4 at g
  simp only [Bool.and_eq_true, decide_eq_true_eq, List.all_eq_true, bne_iff_ne] at g
  obtain ⟨⟨⟨g1, g2⟩, g3⟩, g4⟩ := g
  have e : ((n.toNat : Nat) : Int) = n := by omega
  rw [e] at g3 g4
  exact ⟨g1, g2, g3, g4⟩

theorem index_app : ∀ (x r : List UInt8), (∀ b ∈ x, b ≠ 32) → Lib.index (x ++ 32 :: r) [32] = x.length
  | [], r, _ => by simp [Lib.index]
  | b :: x, r, h => by
    have ih := index_app x r (fun c hc => h c (by simp [hc]))
    have hb : ¬ b = 32 := h b (by simp)
    have hb' : (32 == b) = false := by simp; exact fun e => hb e.symm
    have hp : [32].isPrefixOf (b :: (x ++ 32 :: r)) = false := by simp [List.isPrefixOf, hb']
    have h1 : (((x.length : Nat) : Int) == -1) = false := by simp
    simp only [List.cons_append]
    unfold Lib.index
    rw [hp, ih, h1]
    simp
theorem cut_app (x r : List UInt8) (h : ∀ b ∈ x, b ≠ 32) : Lib.cut (x ++ 32 :: r) [32] = (x, r, true) := by
  unfold Lib.cut
  rw [index_app x r h]
  have : (0 : Int) ≤ (x.length : Int) := by omega
  rw [if_pos this]
  simp
theorem rest_app : ∀ (x r : List UInt8), (∀ b ∈ x, b ≠ 32) → restF (x ++ 32 :: r) = r
  | [], r, _ => by simp [restF]
  | b :: x, r, h => by
    have ih := rest_app x r (fun c hc => h c (by simp [hc]))
    have hb : ¬ b = 32 := h b (by simp)
    simp only [List.cons_append]
    rw [restF, if_neg hb, ih]

/-- A parcel that has a text, and what its text is. -/
theorem text_forms {P : Pcl} {s : ByteArray} (h : P.text = s) (h0 : ¬ s.size = 0) :
    (0 ≤ P.pn ∧ P.pn ≤ 4999) ∧
    ((∃ i a n q l, P = ⟨P.pn, 1, i, a, n, q, l, 0⟩ ∧ boundsB i n q l = true ∧ inB a 0 31 = true ∧ s.data.toList = Lib.decDigits P.pn.toNat ++ 32 :: (X9 i a n q l).data.toList) ∨
     (∃ c, P = ⟨P.pn, 2, 0, 0, 0, 0, 0, c⟩ ∧ (1 ≤ c ∧ c ≤ 9) ∧ s.data.toList = Lib.decDigits P.pn.toNat ++ 32 :: ([99, 111, 105, 110, 115] ++ 32 :: Lib.decDigits c.toNat))) := by
  obtain ⟨pn, pk, i, a, n, q, l, pc⟩ := P
  simp only [Pcl.text] at h
  unfold pclText at h
  split at h
  · rename_i g
    obtain ⟨g1, g2⟩ := g
    have hpn : 0 ≤ pn ∧ pn ≤ 4999 := by simpa [inB] using g1
    refine ⟨hpn, ?_⟩
    by_cases c1 : pk = 1 ∧ pc = 0
    · have hc : cargoText pk i a n q l pc = textOf i a n q l := by simp [cargoText, c1]
      rw [hc] at h g2
      obtain ⟨rfl, rfl⟩ := c1
      have ht : ¬ (textOf i a n q l).size = 0 := by
        intro e
        rw [empty_of_size e] at g2
        exact g2 (by decide +kernel)
      obtain ⟨hb, ha, e⟩ := text_in (t := textOf i a n q l) rfl ht
      refine .inl ⟨i, a, n, q, l, rfl, hb, ha, ?_⟩
      rw [← h, e]
      simp [DD, ByteArray.data_append]
    · by_cases c2 : pk = 2 ∧ noWalker i a n q l = true
      · have hc : cargoText pk i a n q l pc = coinsText pc := by simp [cargoText, c2]
        rw [hc] at h g2
        obtain ⟨rfl, hw⟩ := c2
        have hz : i = 0 ∧ a = 0 ∧ n = 0 ∧ q = 0 ∧ l = 0 := by simpa [noWalker] using hw
        obtain ⟨rfl, rfl, rfl, rfl, rfl⟩ := hz
        unfold coinsText at h g2
        split at h
        · rename_i g3
          refine .inr ⟨pc, rfl, by simpa [inB] using g3, ?_⟩
          rw [← h]
          simp [DD, ByteArray.data_append]
        · rename_i g3
          rw [if_neg g3] at g2
          exact absurd (by decide +kernel) g2
      · have hc : cargoText pk i a n q l pc = ⟨#[]⟩ := by simp [cargoText, c1, c2]
        rw [hc] at g2
        exact absurd (by decide +kernel) g2
  · rw [← h] at h0
    exact absurd rfl h0

theorem eta (b : ByteArray) : (⟨b.data.toList.toArray⟩ : ByteArray) = b := by
  cases b with | mk d => simp

theorem x9_len {i a n q l : Int} (hb : boundsB i n q l = true) (ha : inB a 0 31 = true) : (X9 i a n q l).data.toList.length ≤ 60 := by
  simp only [boundsB, Bool.and_eq_true, inB_true] at hb
  have ha' := inB_true.1 ha
  obtain ⟨⟨i1, i2⟩, ⟨n1, n2⟩, ⟨s1, s2⟩, l1, l2⟩ := hb
  obtain ⟨_, zi, _, _⟩ := good_digits i (by omega) (by omega)
  obtain ⟨_, za, _, _⟩ := good_digits a (by omega) (by omega)
  obtain ⟨_, zn, _, _⟩ := good_digits n (by omega) (by omega)
  obtain ⟨_, zs, _, _⟩ := good_digits q (by omega) (by omega)
  obtain ⟨_, zl, _, _⟩ := good_digits l (by omega) (by omega)
  rw [text_list]
  simp only [List.length_append, List.length_cons, List.length_nil]
  omega
theorem x9_head (i a n q l : Int) : ∃ r, (X9 i a n q l).data.toList = 119 :: r := ⟨_, by rw [text_list]; rfl⟩

theorem x9_ok {i a n q l : Int} (hb : boundsB i n q l = true) (ha : inB a 0 31 = true) : vOk (X9 i a n q l) := by
  obtain ⟨hs, hl, ⟨v1, v3, v5, v7, v9⟩, _⟩ := back hb ha
  refine ⟨hs, hl, ?_⟩
  unfold vText
  rw [v1, v3, v5, v7, v9]
  simp [textOf, hb, ha]

/-- At a text of a parcel the program tries that parcel. -/
theorem iP_back {P : Pcl} {s : ByteArray} (h : P.text = s) (h0 : ¬ s.size = 0) : iP s = P ∧ s.size ≤ 100 := by
  obtain ⟨hpn, hf⟩ := text_forms h h0
  obtain ⟨gd, zd, vd, _⟩ := good_digits4 P.pn hpn.1 hpn.2
  rcases hf with ⟨i, a, n, q, l, hP, hb, ha, hs⟩ | ⟨c, hP, hc, hs⟩
  · constructor
    · unfold iP
      rw [hs, cut_app _ _ gd]
      simp only
      rw [vd, eta]
      unfold lpF
      have hnp : Lib.hasPrefix (X9 i a n q l).data.toList COINS.data.toList = false := by
        obtain ⟨r, e⟩ := x9_head i a n q l
        rw [e]
        rfl
      obtain ⟨_, _, ⟨v1, v3, v5, v7, v9⟩, _⟩ := back hb ha
      rw [hnp, if_neg (by simp), if_pos (x9_ok hb ha), v1, v3, v5, v7, v9]
      exact hP.symm
    · rw [← size_len, hs]
      have := x9_len hb ha
      simp only [List.length_append, List.length_cons]
      omega
  · obtain ⟨_, zc, vc, _⟩ := good_digits c (by omega) (by omega)
    constructor
    · unfold iP
      rw [hs, cut_app _ _ gd]
      simp only
      rw [vd]
      unfold lpF
      have hnp : Lib.hasPrefix ([99, 111, 105, 110, 115] ++ 32 :: Lib.decDigits c.toNat) COINS.data.toList = true := by
        simp [Lib.hasPrefix, COINS, List.isPrefixOf]
      have htp : Lib.trimPrefix ([99, 111, 105, 110, 115] ++ 32 :: Lib.decDigits c.toNat) COINS.data.toList = Lib.decDigits c.toNat := by
        unfold Lib.trimPrefix
        rw [hnp, if_pos rfl]
        simp [COINS]
      simp only
      rw [hnp, if_pos rfl, htp, vc]
      exact hP.symm
    · rw [← size_len, hs]
      simp only [List.length_append, List.length_cons, List.length_nil]
      omega

/-- What the model tries at a text of a parcel. -/
theorem sP_back {P : Pcl} {s : ByteArray} (h : P.text = s) (h0 : ¬ s.size = 0) : s.size ≤ 100 ∧ 3 ≤ (words s.data.toList).length ∧
    (((words s.data.toList).getD 1 [] = [119, 97, 108, 107, 101, 114] ∧ ∃ R : ByteArray, R = ⟨(restF s.data.toList).toArray⟩ ∧ vOk R ∧ P = ⟨uF s 0, 1, vF R 1, vF R 3, vF R 5, vF R 7, vF R 9, 0⟩) ∨
     ((words s.data.toList).getD 1 [] ≠ [119, 97, 108, 107, 101, 114] ∧ P = ⟨uF s 0, 2, 0, 0, 0, 0, 0, uF s 2⟩)) := by
  have hle := (iP_back h h0).2
  obtain ⟨hpn, hf⟩ := text_forms h h0
  obtain ⟨gd, zd, _, ud⟩ := good_digits4 P.pn hpn.1 hpn.2
  rcases hf with ⟨i, a, n, q, l, hP, hb, ha, hs⟩ | ⟨c, hP, hc, hs⟩
  · obtain ⟨hw, _⟩ := text_words hb ha
    have hws : words s.data.toList = Lib.decDigits P.pn.toNat :: tw i a n q l := by rw [hs, words_app _ _ gd, hw]
    have hu0 : uF s 0 = P.pn := by
      unfold uF
      rw [if_pos hle, hws]
      exact ud
    refine ⟨hle, by rw [hws]; simp [tw], .inl ⟨by rw [hws]; rfl, X9 i a n q l, ?_, x9_ok hb ha, ?_⟩⟩
    · rw [hs, rest_app _ _ gd, eta]
    · obtain ⟨_, _, ⟨v1, v3, v5, v7, v9⟩, _⟩ := back hb ha
      rw [hu0, v1, v3, v5, v7, v9]
      exact hP
  · obtain ⟨gc, zc, _, uc⟩ := good_digits c (by omega) (by omega)
    have hws : words s.data.toList = [Lib.decDigits P.pn.toNat, [99, 111, 105, 110, 115], Lib.decDigits c.toNat] := by
      rw [hs, words_app _ _ gd, words_app _ _ (by decide), words_last _ gc]
    have hu0 : uF s 0 = P.pn := by
      unfold uF
      rw [if_pos hle, hws]
      exact ud
    have hu2 : uF s 2 = c := by
      unfold uF
      rw [if_pos hle, hws]
      exact uc
    refine ⟨hle, by rw [hws]; simp, .inr ⟨by rw [hws]; show ([99, 111, 105, 110, 115] : List UInt8) ≠ [119, 97, 108, 107, 101, 114]; decide, ?_⟩⟩
    rw [hu0, hu2]
    exact hP
end Go.Proofs.YtpfemjenhnnfmaaDoor
