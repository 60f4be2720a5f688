/- Plain facts on words: cut at blanks, as the library does and as the model's loop does; the words of a walker's text; no Go text in sight; conditions: those typed. -/
import Derived.Test.YtpfemjenhnnfmaaDoorPlain
import Derived.Lib.SplitLaws
import Derived.Lib.IndexBytes
namespace Go.Proofs.YtpfemjenhnnfmaaDoor
open Go.RowKit
set_option linter.unusedVariables false

def words : List UInt8 → List (List UInt8)
  | [] => [[]]
  | b :: r => if b = 32 then [] :: words r else match words r with
    | w :: ws => (b :: w) :: ws
    | [] => [[b]]
def wordsGo : List UInt8 → List UInt8 → List (List UInt8)
  | cur, [] => [cur]
  | cur, b :: r => if b = 32 then cur :: wordsGo [] r else wordsGo (cur ++ [b]) r

theorem words_cons : ∀ l, ∃ w ws, words l = w :: ws
  | [] => ⟨_, _, rfl⟩
  | b :: r => by
    unfold words
    split
    · exact ⟨_, _, rfl⟩
    · split <;> exact ⟨_, _, rfl⟩
theorem wordsGo_eq : ∀ (l cur : List UInt8) (w : List UInt8) (ws : List (List UInt8)), words l = w :: ws → wordsGo cur l = (cur ++ w) :: ws
  | [], cur, w, ws, h => by
    simp [words] at h; obtain ⟨rfl, rfl⟩ := h; simp [wordsGo]
  | b :: r, cur, w, ws, h => by
    obtain ⟨w', ws', e⟩ := words_cons r
    unfold words at h
    unfold wordsGo
    by_cases hb : b = 32
    · rw [if_pos hb] at h ⊢
      injection h with h1 h2
      subst h1
      rw [wordsGo_eq r [] w' ws' e, ← h2, e]; simp
    · rw [if_neg hb] at h ⊢
      rw [e] at h
      injection h with h1 h2
      rw [wordsGo_eq r (cur ++ [b]) w' ws' e, ← h1, ← h2]; simp
theorem words_go (l : List UInt8) : wordsGo [] l = words l := by
  obtain ⟨w, ws, e⟩ := words_cons l
  rw [wordsGo_eq l [] w ws e, e]; rfl

theorem idx_pos : ∀ l : List UInt8, 0 < l.count 32 → 0 ≤ Lib.indexByte l 32
  | [], h => by simp at h
  | b :: r, h => by
    unfold Lib.indexByte
    by_cases hb : b = 32
    · subst hb; simp
    · have hc : 0 < r.count 32 := by
        rw [List.count_cons] at h
        have : (b == 32) = false := by simpa using hb
        rw [this] at h; simpa using h
      have := idx_pos r hc
      have hb' : (b == 32) = false := by simpa using hb
      rw [hb']
      simp only [Bool.false_eq_true, if_false]
      split
      · rename_i g; simp only [beq_iff_eq] at g; omega
      · omega

theorem split_words : ∀ l : List UInt8, Lib.splitK [32] 0 (l.count 32) l = words l
  | [] => rfl
  | b :: r => by
    have ih := split_words r
    by_cases hb : b = 32
    · subst hb
      have hi : Lib.index (32 :: r) [32] = 0 := by rw [Lib.index_one]; simp [Lib.indexByte]
      rw [List.count_cons_self]
      unfold Lib.splitK
      rw [hi]
      simp only [words, if_true]
      rw [← ih]
      simp
    · have hb' : (b == 32) = false := by simpa using hb
      have hc : (b :: r).count 32 = r.count 32 := by rw [List.count_cons, hb']; simp
      rw [hc]
      unfold words
      rw [if_neg hb]
      cases hk : r.count 32 with
      | zero =>
        rw [hk] at ih
        have e : words r = [r] := by rw [← ih]; rfl
        rw [e]; rfl
      | succ k =>
        rw [hk] at ih
        have hp := idx_pos r (by omega)
        have hir : Lib.index r [32] = Lib.indexByte r 32 := Lib.index_one r 32
        have hi : Lib.index (b :: r) [32] = Lib.indexByte r 32 + 1 := by
          rw [Lib.index_one]
          conv => lhs; unfold Lib.indexByte
          rw [hb']
          simp only [Bool.false_eq_true, if_false]
          have : (Lib.indexByte r 32 == -1) = false := by simp; omega
          rw [this]; simp
        unfold Lib.splitK at ih ⊢
        rw [hi]
        rw [hir] at ih
        have n1 : (Lib.indexByte r 32 == -1) = false := by simp; omega
        have n2 : (Lib.indexByte r 32 + 1 == -1) = false := by simp; omega
        rw [n1] at ih
        rw [n2]
        simp only [Bool.false_eq_true, if_false] at ih ⊢
        rw [← ih]
        have t1 : (Lib.indexByte r 32 + 1).toNat = (Lib.indexByte r 32).toNat + 1 := by omega
        rw [t1]
        simp

theorem words_app : ∀ (x r : List UInt8), (∀ b ∈ x, b ≠ 32) → words (x ++ 32 :: r) = x :: words r
  | [], r, _ => by simp [words]
  | b :: x, r, h => by
    have ih := words_app x r (fun c hc => h c (by simp [hc]))
    have hb : ¬ b = 32 := h b (by simp)
    simp only [List.cons_append]
    rw [words, if_neg hb, ih]
theorem words_last : ∀ (x : List UInt8), (∀ b ∈ x, b ≠ 32) → words x = [x]
  | [], _ => rfl
  | b :: x, h => by
    have ih := words_last x (fun c hc => h c (by simp [hc]))
    have hb : ¬ b = 32 := h b (by simp)
    unfold words
    rw [if_neg hb, ih]

theorem good_digits (n : Int) (h0 : 0 ≤ n) (h1 : n ≤ 900) : (∀ b ∈ Lib.decDigits n.toNat, b ≠ 32) ∧ (Lib.decDigits n.toNat).length ≤ 3 ∧ atoiV (Lib.decDigits n.toNat) = n ∧ numF (Lib.decDigits n.toNat) = n := by
  have g := digits_all n.toNat (by omega)
  unfold goodDigits at g
  simp only [Bool.and_eq_true, decide_eq_true_eq, List.all_eq_true, bne_iff_ne] at g
  obtain ⟨⟨⟨g1, g2⟩, g3⟩, g4⟩ := g
  have e : ((n.toNat : Nat) : Int) = n := by omega
  rw [e] at g3 g4
  exact ⟨g1, g2, g3, g4⟩

/-- The words of a walker's text. -/
def tw (i a n s l : Int) : List (List UInt8) :=
  [[119, 97, 108, 107, 101, 114], Lib.decDigits i.toNat, [97, 116], Lib.decDigits a.toNat, [99, 111, 105, 110, 115], Lib.decDigits n.toNat, [111, 114, 100, 101, 114], Lib.decDigits s.toNat, [99, 111, 100, 101], Lib.decDigits l.toNat]

theorem text_list (i a n s l : Int) : (X9 i a n s l).data.toList = [119, 97, 108, 107, 101, 114] ++ 32 :: (Lib.decDigits i.toNat ++ 32 :: ([97, 116] ++ 32 :: (Lib.decDigits a.toNat ++ 32 :: ([99, 111, 105, 110, 115] ++ 32 :: (Lib.decDigits n.toNat ++ 32 :: ([111, 114, 100, 101, 114] ++ 32 :: (Lib.decDigits s.toNat ++ 32 :: ([99, 111, 100, 101] ++ 32 :: Lib.decDigits l.toNat)))))))) := by
  simp [X9, X8, X7, X6, X5, X4, X3, X2, X1, DD, ByteArray.data_append]

theorem text_words {i a n s l : Int} (hb : boundsB i n s l = true) (ha : inB a 0 31 = true) : words (X9 i a n s l).data.toList = tw i a n s l ∧ (X9 i a n s l).size ≤ 100 := by
  simp only [boundsB, Bool.and_eq_true, inB_true] at hb
  have ha' := inB_true.1 ha
  obtain ⟨⟨i1, i2⟩, ⟨n1, n2⟩, ⟨s1, s2⟩, l1, l2⟩ := hb
  obtain ⟨gi, zi, _, _⟩ := good_digits i (by omega) (by omega)
  obtain ⟨ga, za, _, _⟩ := good_digits a (by omega) (by omega)
  obtain ⟨gn, zn, _, _⟩ := good_digits n (by omega) (by omega)
  obtain ⟨gs, zs, _, _⟩ := good_digits s (by omega) (by omega)
  obtain ⟨gl, zl, _, _⟩ := good_digits l (by omega) (by omega)
  constructor
  · rw [text_list, words_app _ _ (by decide), words_app _ _ gi, words_app _ _ (by decide), words_app _ _ ga, words_app _ _ (by decide), words_app _ _ gn, words_app _ _ (by decide), words_app _ _ gs, words_app _ _ (by decide), words_last _ gl]
    rfl
  · have : (X9 i a n s l).size = (X9 i a n s l).data.toList.length := (Array.length_toList).symm
    rw [this, text_list]
    simp only [List.length_append, List.length_cons, List.length_nil]
    omega
end Go.Proofs.YtpfemjenhnnfmaaDoor
