/- Numbers as decimals, texts cut at their first blank; conditions: none. -/
import Derived.Lib.AtoiTie
import Derived.Lib.ItoaNum
import Derived.Lib.CutLaws
import Derived.Test.YtalmnogdplhflaaGreatDoorLB
namespace Go.Proofs.YtalmnogdplhflaaGreatDoor
open Go.RowKit
set_option linter.unusedVariables false
set_option maxRecDepth 20000
theorem numGo_dec : ∀ (l : List UInt8) (acc : Nat), numGo (acc : Int) l = (Lib.decFrom acc l).map (fun (m : Nat) => (m : Int))
  | [], acc => rfl
  | b :: r, acc => by
    by_cases hd : 48 ≤ b.toNat ∧ b.toNat ≤ 57
    · simp only [numGo, Lib.decFrom, Lib.digitVal, if_pos hd]
      rw [if_neg (by omega)]
      have := numGo_dec r (acc * 10 + (b.toNat - 48))
      simpa using this
    · simp only [numGo, Lib.decFrom, Lib.digitVal, if_neg hd]
      rw [if_pos (by omega)]
      rfl
theorem dec_snoc : ∀ (l : List UInt8) (acc m : Nat) (b : UInt8), Lib.decFrom acc (l ++ [b]) = some m → ∃ k, Lib.decFrom acc l = some k ∧ 48 ≤ b.toNat ∧ b.toNat ≤ 57 ∧ m = k * 10 + (b.toNat - 48)
  | [], acc, m, b, h => by
    by_cases hd : 48 ≤ b.toNat ∧ b.toNat ≤ 57
    · simp only [List.nil_append, Lib.decFrom, Lib.digitVal, if_pos hd] at h
      exact ⟨acc, rfl, hd.1, hd.2, by simpa using h.symm⟩
    · simp [Lib.decFrom, Lib.digitVal, if_neg hd] at h
  | a :: r, acc, m, b, h => by
    by_cases hd : 48 ≤ a.toNat ∧ a.toNat ≤ 57
    · simp only [List.cons_append, Lib.decFrom, Lib.digitVal, if_pos hd] at h ⊢
      exact dec_snoc r _ m b h
    · simp [Lib.decFrom, Lib.digitVal, if_neg hd] at h
theorem dec_snoc2 : ∀ (l : List UInt8) (acc k : Nat) (b : UInt8), Lib.decFrom acc l = some k → 48 ≤ b.toNat → b.toNat ≤ 57 → Lib.decFrom acc (l ++ [b]) = some (k * 10 + (b.toNat - 48))
  | [], acc, k, b, h, h0, h1 => by
    have : acc = k := by simpa [Lib.decFrom] using h
    subst this
    simp [Lib.decFrom, Lib.digitVal, h0, h1]
  | a :: r, acc, k, b, h, h0, h1 => by
    by_cases hd : 48 ≤ a.toNat ∧ a.toNat ≤ 57
    · simp only [List.cons_append, Lib.decFrom, Lib.digitVal, if_pos hd] at h ⊢
      exact dec_snoc2 r _ k b h h0 h1
    · simp [Lib.decFrom, Lib.digitVal, if_neg hd] at h
theorem byte_back {b : UInt8} (h0 : 48 ≤ b.toNat) : UInt8.ofNat (48 + (b.toNat - 48)) = b := by
  rw [show 48 + (b.toNat - 48) = b.toNat by omega]; exact UInt8.ofNat_toNat
theorem byte_there {d : Nat} (h : d < 10) : (UInt8.ofNat (48 + d)).toNat = 48 + d := by
  rw [UInt8.toNat_ofNat']; omega
/-- Decimals that do not open with a nought are the decimals of what they say. -/
theorem dec_back : ∀ (n : Nat) (l : List UInt8) (k : Nat), l.length = n + 1 → l.head? ≠ some 48 → Lib.decFrom 0 l = some k → 1 ≤ k ∧ Lib.decDigits k = l
  | 0, l, k, hl, hh, h => by
    obtain ⟨b, rfl⟩ := List.length_eq_one_iff.1 hl
    obtain ⟨j, hj, b0, b1, rfl⟩ := dec_snoc [] 0 k b h
    have : j = 0 := by simpa [Lib.decFrom] using hj.symm
    subst this
    have hb : b.toNat ≠ 48 := by
      intro e
      apply hh
      have : b = 48 := UInt8.toNat_inj.1 e
      rw [this]; rfl
    refine ⟨by omega, ?_⟩
    rw [Lib.decDigits_one (by omega)]
    simp [byte_back b0]
  | n + 1, l, k, hl, hh, h => by
    have hne : l ≠ [] := by intro e; simp [e] at hl
    obtain ⟨r, b, e⟩ : ∃ r b, l = r ++ [b] := ⟨l.dropLast, l.getLast hne, (List.dropLast_concat_getLast hne).symm⟩
    subst e
    obtain ⟨j, hj, b0, b1, rfl⟩ := dec_snoc r 0 k b h
    have hr : r.length = n + 1 := by simp at hl; omega
    have hh' : r.head? ≠ some 48 := by
      cases r with
      | nil => simp at hr
      | cons a t => simpa using hh
    obtain ⟨j1, ej⟩ := dec_back n r j hr hh' hj
    refine ⟨by omega, ?_⟩
    rw [Lib.decDigits, dif_neg (by omega), show (j * 10 + (b.toNat - 48)) / 10 = j by omega, show (j * 10 + (b.toNat - 48)) % 10 = b.toNat - 48 by omega, ej, byte_back b0]
theorem dec_digits : ∀ k : Nat, Lib.decFrom 0 (Lib.decDigits k) = some k ∧ (1 ≤ k → (Lib.decDigits k).head? ≠ some 48) := by
  intro k
  induction k using Nat.strongRecOn with
  | _ k ih =>
    by_cases h : k < 10
    · rw [Lib.decDigits_one h]
      have := byte_there h
      refine ⟨?_, ?_⟩
      · have := dec_snoc2 [] 0 0 (UInt8.ofNat (48 + k)) rfl (by omega) (by omega)
        rw [byte_there h] at this
        simpa [show 48 + k - 48 = k by omega] using this
      · intro h1 e
        have e2 : UInt8.ofNat (48 + k) = 48 := by simpa using e
        rw [e2] at this
        have : (48 : UInt8).toNat = 48 := rfl
        omega
    · obtain ⟨i1, i2⟩ := ih (k / 10) (by omega)
      rw [Lib.decDigits, dif_neg h]
      refine ⟨?_, ?_⟩
      · have h10 : k % 10 < 10 := by omega
        have := dec_snoc2 _ 0 (k / 10) (UInt8.ofNat (48 + k % 10)) i1 (by rw [byte_there h10]; omega) (by rw [byte_there h10]; omega)
        rw [byte_there h10] at this
        rw [this]
        congr 1; omega
      · intro _
        have := i2 (by omega)
        cases hq : Lib.decDigits (k / 10) with
        | nil =>
          have hl := Lib.decDigits_length (k / 10)
          have hp := Lib.nDigits_pos (k / 10)
          rw [hq] at hl; simp at hl; omega
        | cons a t => rw [hq] at this; simpa using this
theorem nDigits_five {k : Nat} (h : k ≤ 99999) : Lib.nDigits k ≤ 5 := by
  rcases Nat.lt_or_ge k 10 with h1 | h1
  · rw [Lib.nDigits_small h1]; omega
  rcases Nat.lt_or_ge k 100 with h2 | h2
  · rw [Lib.nDigits_unique 1 k (by omega) (by omega)]; omega
  rcases Nat.lt_or_ge k 1000 with h3 | h3
  · rw [Lib.nDigits_unique 2 k (by omega) (by omega)]; omega
  rcases Nat.lt_or_ge k 10000 with h4 | h4
  · rw [Lib.nDigits_unique 3 k (by omega) (by omega)]; omega
  rw [Lib.nDigits_unique 4 k (by omega) (by omega)]; omega
theorem decNat_of {l : List UInt8} {k : Nat} (hne : l ≠ []) (h : Lib.decFrom 0 l = some k) : Lib.decNat l = some k := by
  cases l with
  | nil => exact absurd rfl hne
  | cons a t => simpa [Lib.decNat] using h
theorem atoiV_dec {l : List UInt8} {k : Nat} (hl : l.length ≤ 18) (hne : l ≠ []) (h : Lib.decFrom 0 l = some k) : atoiV l = k := by
  have h2 := decNat_of hne h
  unfold atoiV
  rw [Lib.atoiAll_short l hl]
  cases l with
  | nil => exact absurd rfl hne
  | cons a t =>
    have hd : 48 ≤ a.toNat ∧ a.toNat ≤ 57 := by
      by_cases hd : 48 ≤ a.toNat ∧ a.toNat ≤ 57
      · exact hd
      · simp [Lib.decFrom, Lib.digitVal, if_neg hd] at h
    have n1 : (a == 45) = false := by
      rw [beq_eq_false_iff_ne]; rintro rfl; exact absurd hd.1 (by decide)
    have n2 : (a == 43) = false := by
      rw [beq_eq_false_iff_ne]; rintro rfl; exact absurd hd.1 (by decide)
    simp only [Lib.atoi, n1, n2, h2]
    rfl
theorem decFrom_five {l : List UInt8} {k : Nat} (hl : l.length ≤ 5) (h : Lib.decFrom 0 l = some k) : k ≤ 99999 := by
  have h1 := Lib.decFrom_lt l 0 k h
  have hp : 10 ^ l.length ≤ 10 ^ 5 := Nat.pow_le_pow_right (by decide) hl
  have : (10 : Nat) ^ 5 = 100000 := by decide
  omega
/-- A word that is a number, as the program asks it. -/
def isNum (l : List UInt8) : Bool := decide (0 ≤ atoiV l ∧ atoiV l ≤ 99999 ∧ Lib.itoa (atoiV l) = l)
theorem numF_digits {k : Nat} (h : k ≤ 99999) : numF (Lib.decDigits k) = k ∧ atoiV (Lib.decDigits k) = k := by
  obtain ⟨h1, h2⟩ := dec_digits k
  have hl := Lib.decDigits_length k
  have hp := Lib.nDigits_pos k
  have h5 := nDigits_five h
  have hne : Lib.decDigits k ≠ [] := by intro e; rw [e] at hl; simp at hl; omega
  refine ⟨?_, atoiV_dec (by omega) hne h1⟩
  unfold numF
  rw [if_neg, show (0 : Int) = ((0 : Nat) : Int) from rfl, numGo_dec, h1]
  · rfl
  · rintro (e | e | ⟨e1, e2⟩)
    · omega
    · omega
    · by_cases h1 : 1 ≤ k
      · exact h2 h1 e2
      · have : k = 0 := by omega
        subst this
        rw [Lib.decDigits_one (by omega)] at e1
        simp at e1
theorem isNum_yes {l : List UInt8} (h : isNum l = true) : numF l = atoiV l ∧ 0 ≤ atoiV l ∧ atoiV l ≤ 99999 := by
  have h := of_decide_eq_true h
  obtain ⟨h0, h1, h2⟩ := h
  refine ⟨?_, h0, h1⟩
  unfold Lib.itoa at h2
  rw [if_neg (by omega)] at h2
  have := (numF_digits (k := (atoiV l).toNat) (by omega)).1
  rw [h2] at this
  rw [this]; omega
theorem isNum_no {l : List UInt8} (h : isNum l = false) : numF l = -1 := by
  have h := of_decide_eq_false h
  unfold numF
  split
  · rfl
  · rename_i hc
    cases hg : numGo 0 l with
    | none => rfl
    | some z =>
      exfalso
      apply h
      have hd := numGo_dec l 0
      rw [show ((0 : Nat) : Int) = 0 from rfl, hg] at hd
      cases hf : Lib.decFrom 0 l with
      | none => rw [hf] at hd; simp at hd
      | some k =>
        have hlen : l.length ≤ 5 ∧ l.length ≠ 0 := by
          constructor
          · have := fun e => hc (.inr (.inl e)); omega
          · exact fun e => hc (.inl e)
        have hne : l ≠ [] := by intro e; simp [e] at hlen
        have ha := atoiV_dec (by omega) hne hf
        have hk := decFrom_five hlen.1 hf
        rw [ha]
        refine ⟨by omega, by omega, ?_⟩
        unfold Lib.itoa
        rw [if_neg (by omega), show ((k : Int)).toNat = k by omega]
        by_cases hh : l.head? = some 48
        · have h1 : ¬ 1 < l.length := fun e => hc (.inr (.inr ⟨e, hh⟩))
          obtain ⟨b, rfl⟩ := List.length_eq_one_iff.1 (show l.length = 1 by omega)
          have : b = 48 := by simpa using hh
          subst this
          have : k = 0 := by
            have : Lib.decFrom 0 [48] = some 0 := by decide +kernel
            rw [this] at hf; injection hf with hf; omega
          subst this
          rw [Lib.decDigits_one (by omega)]; rfl
        · exact (dec_back (l.length - 1) l k (by omega) hh hf).2
/-- What stands behind the first blank. -/
def restF : List UInt8 → List UInt8
  | [] => []
  | b :: r => if b = 32 then r else restF r
theorem rest_blank {l : List UInt8} {k : Nat} (hk : k < l.length) (h : l[k] = 32) : restF (l.drop k) = l.drop (k + 1) := by
  rw [List.drop_eq_getElem_cons hk, restF, if_pos h]
theorem rest_else {l : List UInt8} {k : Nat} (hk : k < l.length) (h : ¬ l[k] = 32) : restF (l.drop k) = restF (l.drop (k + 1)) := by
  rw [List.drop_eq_getElem_cons hk, restF, if_neg h]
theorem ext_drop (s : ByteArray) (k : Nat) : s.extract k s.size = ⟨(s.data.toList.drop k).toArray⟩ := by
  apply ByteArray.ext
  rw [ByteArray.data_extract]
  apply Array.ext'
  rw [Array.toList_extract, List.extract_eq_take_drop]
  rw [List.take_of_length_le]
  rw [List.length_drop, size_len]
  exact Nat.le_refl _
theorem rest_spec (s : ByteArray) (hs : (s.size : Int) ≤ 1000) (w : World) :
    Calls Tryz.prog 21 #[.string s] w fun e w' => e = .returned (.string ⟨(restF s.data.toList).toArray⟩) ∧ w' = w := by
  have hsl := size_len s
  go_enter Tryz.func21, Tryz.ntmps21
  go_wp2
  go_loopw [3] (fun i wr => ∃ k : Nat, k ≤ s.size ∧ .int .i64 k = i ∧ restF s.data.toList = restF (s.data.toList.drop k) ∧ w = wr) (fun i _ => s.size - (intOf i).toNat)
  case atStart => exact ⟨0, Nat.zero_le _, rfl, rfl, rfl⟩
  case round =>
    obtain ⟨k, hk, rfl, hr, rfl⟩ := hrel
    by_cases hkn : k < s.size
    · have hkn' : (k : Int) < (s.size : Int) := by omega
      have HR : Hid (restF s.data.toList = restF (s.data.toList.drop k)) := hr
      clear hr
      have hlt : k < s.data.toList.length := by rw [hsl]; exact hkn
      by_cases h32 : s.data.toList[k] = 32
      · have e32 : ((s[k]'hkn).toNat : Int) = 32 := by have : s[k]'hkn = 32 := h32; rw [this]; rfl
        have HQ : Hid (s.extract (k + 1) s.size = ⟨(restF s.data.toList).toArray⟩) := by
          unfold Hid
          rw [HR.out, rest_blank hlt h32, ext_drop]
        have e33 : (((s[k]'hkn).toNat : Int) == 32) = true := by rw [e32]; rfl
        clear h32 hlt e32 hsl
        go_wp2
        go_ret
        exact ⟨by rw [← HQ.out]; rfl, rfl⟩
      · have HN : Hid (restF s.data.toList = restF (s.data.toList.drop (k + 1))) := by
          unfold Hid
          rw [HR.out, rest_else hlt h32]
        have e33 : (((s[k]'hkn).toNat : Int) == 32) = false := by
          have : s[k]'hkn ≠ 32 := h32
          have h2 : (s[k]'hkn).toNat ≠ 32 := fun e => this (UInt8.toNat_inj.1 (by rw [e]; rfl))
          simp
          omega
        clear h32 hlt hsl
        go_wp2
        go_roundw
        case rel => exact ⟨k + 1, by omega, by go_num, HN.out, by trivial⟩
        case measure => simp [intOf]; omega
    · have : k = s.size := by omega
      have HQ : Hid (restF s.data.toList = []) := by
        unfold Hid
        rw [hr, this, ← hsl, List.drop_length]
        rfl
      subst this
      clear hr hsl
      go_wp2
      go_ret
      exact ⟨by rw [HQ.out]; rfl, rfl⟩
theorem index_app : ∀ (x r : List UInt8), (∀ b ∈ x, b ≠ 32) → Lib.index (x ++ 32 :: r) [32] = x.length
  | [], r, _ => by simp [Lib.index]
  | b :: x, r, h => by
    have ih := index_app x r (fun c hc => h c (by simp [hc]))
    have hb : ¬ b = 32 := h b (by simp)
    have hb' : (32 == b) = false := by simp; exact fun e => hb e.symm
    have hp : [32].isPrefixOf (b :: (x ++ 32 :: r)) = false := by simp [List.isPrefixOf, hb']
    have h1 : (((x.length : Nat) : Int) == -1) = false := by simp
    simp only [List.cons_append]
    unfold Lib.index
    rw [hp, ih, h1]
    simp
theorem cut_app (x r : List UInt8) (h : ∀ b ∈ x, b ≠ 32) : Lib.cut (x ++ 32 :: r) [32] = (x, r, true) := by
  unfold Lib.cut
  rw [index_app x r h]
  have : (0 : Int) ≤ (x.length : Int) := by omega
  rw [if_pos this]
  simp
theorem rest_app : ∀ (x r : List UInt8), (∀ b ∈ x, b ≠ 32) → restF (x ++ 32 :: r) = r
  | [], r, _ => by simp [restF]
  | b :: x, r, h => by
    have ih := rest_app x r (fun c hc => h c (by simp [hc]))
    have hb : ¬ b = 32 := h b (by simp)
    simp only [List.cons_append]
    rw [restF, if_neg hb, ih]
theorem cut_len (s : List UInt8) : (Lib.cut s [32]).1.length ≤ s.length ∧ (Lib.cut s [32]).2.1.length ≤ s.length := by
  unfold Lib.cut
  split
  · simp only [List.length_take, List.length_drop]; omega
  · simp
theorem rest_len : ∀ l : List UInt8, (restF l).length ≤ l.length
  | [] => by simp [restF]
  | b :: r => by
    have := rest_len r
    rw [restF]; split <;> simp <;> omega
theorem blank_or : ∀ l : List UInt8, (∀ b ∈ l, b ≠ 32) ∨ ∃ x r, l = x ++ 32 :: r ∧ ∀ b ∈ x, b ≠ 32
  | [] => .inl (by simp)
  | b :: l => by
    by_cases hb : b = 32
    · exact .inr ⟨[], l, by simp [hb], by simp⟩
    · rcases blank_or l with h | ⟨x, r, e, h⟩
      · left; intro c hc
        rcases List.mem_cons.1 hc with rfl | hc
        · exact hb
        · exact h c hc
      · right
        refine ⟨b :: x, r, by simp [e], fun c hc => ?_⟩
        rcases List.mem_cons.1 hc with rfl | hc
        · exact hb
        · exact h c hc
theorem index_none : ∀ (x : List UInt8), (∀ b ∈ x, b ≠ 32) → Lib.index x [32] = -1
  | [], _ => by simp [Lib.index]
  | b :: x, h => by
    have ih := index_none x (fun c hc => h c (by simp [hc]))
    have hb : ¬ b = 32 := h b (by simp)
    have hb' : (32 == b) = false := by simp; exact fun e => hb e.symm
    have hp : [32].isPrefixOf (b :: x) = false := by simp [List.isPrefixOf, hb']
    unfold Lib.index
    rw [hp, ih]
    simp
theorem cut_none (x : List UInt8) (h : ∀ b ∈ x, b ≠ 32) : Lib.cut x [32] = (x, [], false) := by
  unfold Lib.cut
  rw [index_none x h, if_neg (by omega)]
theorem rest_none : ∀ (x : List UInt8), (∀ b ∈ x, b ≠ 32) → restF x = []
  | [], _ => rfl
  | b :: x, h => by
    rw [restF, if_neg (h b (by simp)), rest_none x (fun c hc => h c (by simp [hc]))]

theorem len_two {α : Type} {l : List α} (h : l.length = 2) : ∃ a b, l = [a, b] := by
  match l, h with
  | [a, b], _ => exact ⟨a, b, rfl⟩
/-- The numbers that a text's words are; none, if one of them is no number. -/
def numsOf (r : List UInt8) : List Int := if (words r).all isNum = true then (words r).map atoiV else []
theorem isNum_nil : isNum [] = false := by decide +kernel
theorem nums_nil : numsOf [] = [] := by
  unfold numsOf
  rw [show words [] = [[]] from rfl]
  simp [isNum_nil]
/-- What the model asks of so many words behind the first one. -/
def twoB (ws : List (List UInt8)) (n : Nat) : Prop := ws.length = n + 1 ∧ ∀ i : Nat, 1 ≤ i → i ≤ n → 0 ≤ atF ws i
theorem num_or (l : List UInt8) : (isNum l = true ∧ numF l = atoiV l ∧ 0 ≤ atoiV l) ∨ (isNum l = false ∧ numF l = -1) := by
  cases h : isNum l with
  | true => exact .inl ⟨rfl, (isNum_yes h).1, (isNum_yes h).2.1⟩
  | false => exact .inr ⟨rfl, isNum_no h⟩
theorem one_yes {x r : List UInt8} (h : twoB (x :: words r) 1) : numsOf r = [atF (x :: words r) 1] := by
  obtain ⟨h1, h2⟩ := h
  have h2 := h2 1 (by omega) (by omega)
  obtain ⟨l, e⟩ := List.length_eq_one_iff.1 (show (words r).length = 1 by simpa using h1)
  rw [e] at h2 ⊢
  unfold numsOf
  rw [e]
  simp only [atF, List.getElem?_cons_succ, List.getElem?_cons_zero] at h2 ⊢
  rcases num_or l with ⟨a, b, c⟩ | ⟨a, b⟩
  · simp [a, b]
  · omega
theorem one_no {x r : List UInt8} (h : ¬ twoB (x :: words r) 1) : ¬ (numsOf r).length = 1 := by
  intro e
  apply h
  unfold numsOf at e
  split at e
  · rename_i ha
    rw [List.length_map] at e
    obtain ⟨l, e'⟩ := List.length_eq_one_iff.1 e
    rw [e'] at ha
    simp at ha
    refine ⟨by simp [e'], fun i h1 h2 => ?_⟩
    obtain rfl : i = 1 := by omega
    rw [e']
    simp only [atF, List.getElem?_cons_succ, List.getElem?_cons_zero]
    have := isNum_yes ha
    omega
  · simp at e
theorem two_yes {x r : List UInt8} (h : twoB (x :: words r) 2) : numsOf r = [atF (x :: words r) 1, atF (x :: words r) 2] := by
  obtain ⟨h1, h2⟩ := h
  have h3 := h2 1 (by omega) (by omega)
  have h4 := h2 2 (by omega) (by omega)
  obtain ⟨l, k, e⟩ := len_two (show (words r).length = 2 by simpa using h1)
  rw [e] at h3 h4 ⊢
  unfold numsOf
  rw [e]
  simp only [atF, List.getElem?_cons_succ, List.getElem?_cons_zero] at h3 h4 ⊢
  rcases num_or l with ⟨a, b, c⟩ | ⟨a, b⟩
  · rcases num_or k with ⟨a', b', c'⟩ | ⟨a', b'⟩
    · simp [a, b, a', b']
    · omega
  · omega
theorem two_no {x r : List UInt8} (h : ¬ twoB (x :: words r) 2) : ¬ (numsOf r).length = 2 := by
  intro e
  apply h
  unfold numsOf at e
  split at e
  · rename_i ha
    rw [List.length_map] at e
    obtain ⟨l, k, e'⟩ := len_two e
    rw [e'] at ha
    simp at ha
    refine ⟨by simp [e'], fun i h1 h2 => ?_⟩
    have : i = 1 ∨ i = 2 := by omega
    rw [e']
    have q1 := isNum_yes ha.1
    have q2 := isNum_yes ha.2
    rcases this with rfl | rfl
    · simp only [atF, List.getElem?_cons_succ, List.getElem?_cons_zero]; omega
    · simp only [atF, List.getElem?_cons_succ, List.getElem?_cons_zero]; omega
  · simp at e
/-- No order has a text that ends in a blank. -/
theorem no_ord {X : ByteArray} {r : List UInt8} (hr : ∀ b ∈ r, b ≠ 32) (hX : X.data.toList = r ++ 32 :: [49, 32]) : ∀ p0 p1 p2 p3 p4 : Int, ordText p0 p1 p2 p3 p4 = X → X.size = 0 := by
  intro p0 p1 p2 p3 p4 h
  refine Classical.byContradiction fun h0 => ?_
  obtain ⟨f, _, h3, hf, _⟩ := ord_back h h0
  have e : words X.data.toList = [r, [49], []] := by
    rw [hX, words_app r _ hr, show ([49, 32] : List UInt8) = [49] ++ 32 :: [] from rfl, words_app [49] [] (by decide), words_last [] (by simp)]
  have e2 : wordB X 2 = ⟨#[]⟩ := by
    unfold wordB
    rw [e]; rfl
  rw [e2, show readerOf (⟨#[]⟩ : ByteArray) = none by decide +kernel] at hf
  cases hf
end Go.Proofs.YtalmnogdplhflaaGreatDoor
