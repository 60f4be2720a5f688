/- What is carried: lemmas on lists, cells and draws; conditions: those typed. -/
import Derived.WalkKit
import Derived.ProofKit
import Derived.OpenShut
import Derived.Below
import Derived.BigQuiet
import Derived.Test.YtlmoeacpkkkkcaaGreatDoorRows
import Derived.WalkSpells
import Derived.Lib.ItoaNum
import Derived.Lib.AppendIntMem
import Derived.Deep.RegionHeld3
import Derived.Deep.QuietTactic
import Derived.Lib.AtoiAll
import Derived.Lib.Split
import Derived.Lib.SplitLaws
import Derived.Lib.IndexBytes
import Derived.Lib.AtoiErrMem
import Derived.LoopTactic
import Derived.OwnWalk
import Derived.Laws.IdiomCopy
import Derived.WideMake
import Derived.Laws.OwnMore
import Derived.Deep.RegionWith
import Derived.Deep.DeepCutAuto
import Derived.Lib.AppendZerosOnto
import Derived.Lib.AtoiTie
import Derived.Lib.CutLaws
import Derived.Deep.OwnRows
import Derived.Laws.AppendOwn
import Derived.Test.YtlmoeacpkkkkcaaGreatDoorTA
import Derived.Test.YtlmoeacpkkkkcaaGreatDoorBase
import Derived.Test.YtlmoeacpkkkkcaaGreatDoorTB
import Derived.Test.YtlmoeacpkkkkcaaGreatDoorShelf
namespace Go.Proofs.YtlmoeacpkkkkcaaGreatDoor
open Go.RowKit Go.ChangeShapes Go.WideShapes Go.ChangeAt
end Go.Proofs.YtlmoeacpkkkkcaaGreatDoor
namespace Go.Proofs.YtlmoeacpkkkkcaaGreatDoor
open Go.RowKit
set_option linter.unusedVariables false
end Go.Proofs.YtlmoeacpkkkkcaaGreatDoor
namespace Go.Proofs.YtlmoeacpkkkkcaaGreatDoor
open Go.RowKit
set_option linter.unusedVariables false
end Go.Proofs.YtlmoeacpkkkkcaaGreatDoor
namespace Go.Proofs.YtlmoeacpkkkkcaaGreatDoor
open Go.RowKit
set_option linter.unusedVariables false
end Go.Proofs.YtlmoeacpkkkkcaaGreatDoor
namespace Go.Proofs.YtlmoeacpkkkkcaaGreatDoor
open Go.RowKit
set_option linter.unusedVariables false
end Go.Proofs.YtlmoeacpkkkkcaaGreatDoor
namespace Go.Proofs.YtlmoeacpkkkkcaaGreatDoor
open Go.RowKit
set_option linter.unusedVariables false
end Go.Proofs.YtlmoeacpkkkkcaaGreatDoor
namespace Go.Proofs.YtlmoeacpkkkkcaaGreatDoor
open Go.RowKit
set_option linter.unusedVariables false
end Go.Proofs.YtlmoeacpkkkkcaaGreatDoor
namespace Go.Proofs.YtlmoeacpkkkkcaaGreatDoor
open Go.RowKit
set_option linter.unusedVariables false
end Go.Proofs.YtlmoeacpkkkkcaaGreatDoor
namespace Go.Proofs.YtlmoeacpkkkkcaaGreatDoor
open Go.RowKit
set_option linter.unusedVariables false
end Go.Proofs.YtlmoeacpkkkkcaaGreatDoor
namespace Go.Proofs.YtlmoeacpkkkkcaaGreatDoor
open Go.RowKit
set_option linter.unusedVariables false
end Go.Proofs.YtlmoeacpkkkkcaaGreatDoor
namespace Go.Proofs.YtlmoeacpkkkkcaaGreatDoor
open Go.RowKit Go.ChangeShapes Go.WideShapes Go.ChangeAt
end Go.Proofs.YtlmoeacpkkkkcaaGreatDoor
namespace Go.Proofs.YtlmoeacpkkkkcaaGreatDoor
open Go.RowKit
set_option linter.unusedVariables false
end Go.Proofs.YtlmoeacpkkkkcaaGreatDoor
namespace Go.Proofs.YtlmoeacpkkkkcaaGreatDoor
open Go.RowKit
set_option linter.unusedVariables false
end Go.Proofs.YtlmoeacpkkkkcaaGreatDoor
namespace Go.Proofs.YtlmoeacpkkkkcaaGreatDoor
open Go.RowKit
set_option linter.unusedVariables false
end Go.Proofs.YtlmoeacpkkkkcaaGreatDoor
namespace Go.Proofs.YtlmoeacpkkkkcaaGreatDoor
open Go.RowKit
set_option linter.unusedVariables false
end Go.Proofs.YtlmoeacpkkkkcaaGreatDoor
namespace Go.Proofs.YtlmoeacpkkkkcaaGreatDoor
open Go.RowKit
set_option linter.unusedVariables false
end Go.Proofs.YtlmoeacpkkkkcaaGreatDoor
namespace Go.Proofs.YtlmoeacpkkkkcaaGreatDoor
open Go.RowKit
set_option linter.unusedVariables false
end Go.Proofs.YtlmoeacpkkkkcaaGreatDoor
namespace Go.Proofs.YtlmoeacpkkkkcaaGreatDoor
open Go.RowKit
set_option linter.unusedVariables false
end Go.Proofs.YtlmoeacpkkkkcaaGreatDoor
namespace Go.Proofs.YtlmoeacpkkkkcaaGreatDoor
open Go.RowKit
set_option linter.unusedVariables false
end Go.Proofs.YtlmoeacpkkkkcaaGreatDoor
namespace Go.Proofs.YtlmoeacpkkkkcaaGreatDoor
open Go.RowKit
set_option linter.unusedVariables false
end Go.Proofs.YtlmoeacpkkkkcaaGreatDoor
namespace Go.Proofs.YtlmoeacpkkkkcaaGreatDoor
open Go.RowKit
set_option linter.unusedVariables false
end Go.Proofs.YtlmoeacpkkkkcaaGreatDoor
namespace Go.Proofs.YtlmoeacpkkkkcaaGreatDoor
open Go.RowKit
set_option linter.unusedVariables false
end Go.Proofs.YtlmoeacpkkkkcaaGreatDoor
namespace Go.Proofs.YtlmoeacpkkkkcaaGreatDoor
open Go.RowKit
set_option linter.unusedVariables false
end Go.Proofs.YtlmoeacpkkkkcaaGreatDoor
namespace Go.Proofs.YtlmoeacpkkkkcaaGreatDoor
open Go.RowKit
set_option linter.unusedVariables false
set_option maxRecDepth 20000
end Go.Proofs.YtlmoeacpkkkkcaaGreatDoor
namespace Go.Proofs.YtlmoeacpkkkkcaaGreatDoor
open Go.RowKit
set_option linter.unusedVariables false
set_option maxRecDepth 20000
end Go.Proofs.YtlmoeacpkkkkcaaGreatDoor
namespace Go.Proofs.YtlmoeacpkkkkcaaGreatDoor
open Go.RowKit
set_option linter.unusedVariables false
set_option maxRecDepth 20000
end Go.Proofs.YtlmoeacpkkkkcaaGreatDoor
namespace Go.Proofs.YtlmoeacpkkkkcaaGreatDoor
open Go.RowKit
set_option linter.unusedVariables false
end Go.Proofs.YtlmoeacpkkkkcaaGreatDoor
namespace Go.Proofs.YtlmoeacpkkkkcaaGreatDoor
open Go.RowKit
set_option linter.unusedVariables false
theorem list_eq {x y : ByteArray} : (x.toList == y.toList) = decide (x = y) := by
  by_cases h : x = y
  · simp [h]
  · have : ¬ x.toList = y.toList := fun e => h (text_inj e)
    simp [h, this]
end Go.Proofs.YtlmoeacpkkkkcaaGreatDoor
namespace Go.Proofs.YtlmoeacpkkkkcaaGreatDoor
open Go.RowKit
set_option linter.unusedVariables false
theorem split_eq (s : ByteArray) (hs : s.size ≤ 100) (w : World) (hE : Env w) :
    Calls Tryz.prog 47 #[.string s, .string ⟨#[32]⟩] w fun e w' => ∃ ps : List ByteArray, ps.map (fun x => x.data.toList) = words s.data.toList ∧
      e = .returned (.slice (some ⟨w.heap.size, 0, none⟩) ps.length ps.length) ∧ w' = w.alloc (.cells (ps.map Value.string).toArray 9) := by
  obtain ⟨⟨m, hm⟩, _⟩ := hE w (Below.refl _ _)
  have hlen : Lib.countB s ⟨#[32]⟩ + 1 = (Lib.splitB ⟨#[32]⟩ 0 (Lib.countB s ⟨#[32]⟩) s).length := by
    have h1 := pieces_len s
    have h2 : (words s.data.toList).length = s.data.toList.count 32 + 1 := wcount s.data.toList
    have h3 : Lib.countB s ⟨#[32]⟩ = s.data.toList.count 32 := by rw [← Lib.count_one]
    omega
  refine (Tryz.strings_Split s ⟨#[32]⟩ m w (by omega) hm (by decide)).mono ?_
  rintro e w' ⟨rfl, rfl⟩
  exact ⟨_, pieces s, by rw [hlen], rfl⟩
end Go.Proofs.YtlmoeacpkkkkcaaGreatDoor
namespace Go.Proofs.YtlmoeacpkkkkcaaGreatDoor
open Go.RowKit
set_option linter.unusedVariables false
end Go.Proofs.YtlmoeacpkkkkcaaGreatDoor
namespace Go.Proofs.YtlmoeacpkkkkcaaGreatDoor
open Go.RowKit
set_option linter.unusedVariables false
end Go.Proofs.YtlmoeacpkkkkcaaGreatDoor
namespace Go.Proofs.YtlmoeacpkkkkcaaGreatDoor
open Go.RowKit
set_option linter.unusedVariables false
set_option maxRecDepth 20000
end Go.Proofs.YtlmoeacpkkkkcaaGreatDoor
namespace Go.Proofs.YtlmoeacpkkkkcaaGreatDoor
open Go.RowKit
set_option linter.unusedVariables false
end Go.Proofs.YtlmoeacpkkkkcaaGreatDoor
namespace Go.Proofs.YtlmoeacpkkkkcaaGreatDoor
open Go.RowKit
set_option linter.unusedVariables false
end Go.Proofs.YtlmoeacpkkkkcaaGreatDoor
namespace Go.Proofs.YtlmoeacpkkkkcaaGreatDoor
open Go.RowKit
set_option linter.unusedVariables false
end Go.Proofs.YtlmoeacpkkkkcaaGreatDoor
namespace Go.Proofs.YtlmoeacpkkkkcaaGreatDoor
open Go.RowKit
set_option linter.unusedVariables false
set_option maxRecDepth 20000
end Go.Proofs.YtlmoeacpkkkkcaaGreatDoor
namespace Go.Proofs.YtlmoeacpkkkkcaaGreatDoor
open Go.RowKit
set_option linter.unusedVariables false
end Go.Proofs.YtlmoeacpkkkkcaaGreatDoor
namespace Go.Proofs.YtlmoeacpkkkkcaaGreatDoor
open Go.RowKit
set_option linter.unusedVariables false
set_option maxRecDepth 20000
theorem numGo_dec : ∀ (l : List UInt8) (acc : Nat), numGo (acc : Int) l = (Lib.decFrom acc l).map (fun (m : Nat) => (m : Int))
  | [], acc => rfl
  | b :: r, acc => by
    by_cases hd : 48 ≤ b.toNat ∧ b.toNat ≤ 57
    · simp only [numGo, Lib.decFrom, Lib.digitVal, if_pos hd]
      rw [if_neg (by omega)]
      have := numGo_dec r (acc * 10 + (b.toNat - 48))
      simpa using this
    · simp only [numGo, Lib.decFrom, Lib.digitVal, if_neg hd]
      rw [if_pos (by omega)]
      rfl
theorem dec_snoc : ∀ (l : List UInt8) (acc m : Nat) (b : UInt8), Lib.decFrom acc (l ++ [b]) = some m → ∃ k, Lib.decFrom acc l = some k ∧ 48 ≤ b.toNat ∧ b.toNat ≤ 57 ∧ m = k * 10 + (b.toNat - 48)
  | [], acc, m, b, h => by
    by_cases hd : 48 ≤ b.toNat ∧ b.toNat ≤ 57
    · simp only [List.nil_append, Lib.decFrom, Lib.digitVal, if_pos hd] at h
      exact ⟨acc, rfl, hd.1, hd.2, by simpa using h.symm⟩
    · simp [Lib.decFrom, Lib.digitVal, if_neg hd] at h
  | a :: r, acc, m, b, h => by
    by_cases hd : 48 ≤ a.toNat ∧ a.toNat ≤ 57
    · simp only [List.cons_append, Lib.decFrom, Lib.digitVal, if_pos hd] at h ⊢
      exact dec_snoc r _ m b h
    · simp [Lib.decFrom, Lib.digitVal, if_neg hd] at h
theorem dec_snoc2 : ∀ (l : List UInt8) (acc k : Nat) (b : UInt8), Lib.decFrom acc l = some k → 48 ≤ b.toNat → b.toNat ≤ 57 → Lib.decFrom acc (l ++ [b]) = some (k * 10 + (b.toNat - 48))
  | [], acc, k, b, h, h0, h1 => by
    have : acc = k := by simpa [Lib.decFrom] using h
    subst this
    simp [Lib.decFrom, Lib.digitVal, h0, h1]
  | a :: r, acc, k, b, h, h0, h1 => by
    by_cases hd : 48 ≤ a.toNat ∧ a.toNat ≤ 57
    · simp only [List.cons_append, Lib.decFrom, Lib.digitVal, if_pos hd] at h ⊢
      exact dec_snoc2 r _ k b h h0 h1
    · simp [Lib.decFrom, Lib.digitVal, if_neg hd] at h
theorem byte_back {b : UInt8} (h0 : 48 ≤ b.toNat) : UInt8.ofNat (48 + (b.toNat - 48)) = b := by
  rw [show 48 + (b.toNat - 48) = b.toNat by omega]; exact UInt8.ofNat_toNat
theorem byte_there {d : Nat} (h : d < 10) : (UInt8.ofNat (48 + d)).toNat = 48 + d := by
  rw [UInt8.toNat_ofNat']; omega
/-- Decimals that do not open with a nought are the decimals of what they say. -/
theorem dec_back : ∀ (n : Nat) (l : List UInt8) (k : Nat), l.length = n + 1 → l.head? ≠ some 48 → Lib.decFrom 0 l = some k → 1 ≤ k ∧ Lib.decDigits k = l
  | 0, l, k, hl, hh, h => by
    obtain ⟨b, rfl⟩ := List.length_eq_one_iff.1 hl
    obtain ⟨j, hj, b0, b1, rfl⟩ := dec_snoc [] 0 k b h
    have : j = 0 := by simpa [Lib.decFrom] using hj.symm
    subst this
    have hb : b.toNat ≠ 48 := by
      intro e
      apply hh
      have : b = 48 := UInt8.toNat_inj.1 e
      rw [this]; rfl
    refine ⟨by omega, ?_⟩
    rw [Lib.decDigits_one (by omega)]
    simp [byte_back b0]
  | n + 1, l, k, hl, hh, h => by
    have hne : l ≠ [] := by intro e; simp [e] at hl
    obtain ⟨r, b, e⟩ : ∃ r b, l = r ++ [b] := ⟨l.dropLast, l.getLast hne, (List.dropLast_concat_getLast hne).symm⟩
    subst e
    obtain ⟨j, hj, b0, b1, rfl⟩ := dec_snoc r 0 k b h
    have hr : r.length = n + 1 := by simp at hl; omega
    have hh' : r.head? ≠ some 48 := by
      cases r with
      | nil => simp at hr
      | cons a t => simpa using hh
    obtain ⟨j1, ej⟩ := dec_back n r j hr hh' hj
    refine ⟨by omega, ?_⟩
    rw [Lib.decDigits, dif_neg (by omega), show (j * 10 + (b.toNat - 48)) / 10 = j by omega, show (j * 10 + (b.toNat - 48)) % 10 = b.toNat - 48 by omega, ej, byte_back b0]
theorem dec_digits : ∀ k : Nat, Lib.decFrom 0 (Lib.decDigits k) = some k ∧ (1 ≤ k → (Lib.decDigits k).head? ≠ some 48) := by
  intro k
  induction k using Nat.strongRecOn with
  | _ k ih =>
    by_cases h : k < 10
    · rw [Lib.decDigits_one h]
      have := byte_there h
      refine ⟨?_, ?_⟩
      · have := dec_snoc2 [] 0 0 (UInt8.ofNat (48 + k)) rfl (by omega) (by omega)
        rw [byte_there h] at this
        simpa [show 48 + k - 48 = k by omega] using this
      · intro h1 e
        have e2 : UInt8.ofNat (48 + k) = 48 := by simpa using e
        rw [e2] at this
        have : (48 : UInt8).toNat = 48 := rfl
        omega
    · obtain ⟨i1, i2⟩ := ih (k / 10) (by omega)
      rw [Lib.decDigits, dif_neg h]
      refine ⟨?_, ?_⟩
      · have h10 : k % 10 < 10 := by omega
        have := dec_snoc2 _ 0 (k / 10) (UInt8.ofNat (48 + k % 10)) i1 (by rw [byte_there h10]; omega) (by rw [byte_there h10]; omega)
        rw [byte_there h10] at this
        rw [this]
        congr 1; omega
      · intro _
        have := i2 (by omega)
        cases hq : Lib.decDigits (k / 10) with
        | nil =>
          have hl := Lib.decDigits_length (k / 10)
          have hp := Lib.nDigits_pos (k / 10)
          rw [hq] at hl; simp at hl; omega
        | cons a t => rw [hq] at this; simpa using this
theorem nDigits_five {k : Nat} (h : k ≤ 99999) : Lib.nDigits k ≤ 5 := by
  rcases Nat.lt_or_ge k 10 with h1 | h1
  · rw [Lib.nDigits_small h1]; omega
  rcases Nat.lt_or_ge k 100 with h2 | h2
  · rw [Lib.nDigits_unique 1 k (by omega) (by omega)]; omega
  rcases Nat.lt_or_ge k 1000 with h3 | h3
  · rw [Lib.nDigits_unique 2 k (by omega) (by omega)]; omega
  rcases Nat.lt_or_ge k 10000 with h4 | h4
  · rw [Lib.nDigits_unique 3 k (by omega) (by omega)]; omega
  rw [Lib.nDigits_unique 4 k (by omega) (by omega)]; omega
theorem decNat_of {l : List UInt8} {k : Nat} (hne : l ≠ []) (h : Lib.decFrom 0 l = some k) : Lib.decNat l = some k := by
  cases l with
  | nil => exact absurd rfl hne
  | cons a t => simpa [Lib.decNat] using h
theorem atoiV_dec {l : List UInt8} {k : Nat} (hl : l.length ≤ 18) (hne : l ≠ []) (h : Lib.decFrom 0 l = some k) : atoiV l = k := by
  have h2 := decNat_of hne h
  unfold atoiV
  rw [Lib.atoiAll_short l hl]
  cases l with
  | nil => exact absurd rfl hne
  | cons a t =>
    have hd : 48 ≤ a.toNat ∧ a.toNat ≤ 57 := by
      by_cases hd : 48 ≤ a.toNat ∧ a.toNat ≤ 57
      · exact hd
      · simp [Lib.decFrom, Lib.digitVal, if_neg hd] at h
    have n1 : (a == 45) = false := by
      rw [beq_eq_false_iff_ne]; rintro rfl; exact absurd hd.1 (by decide)
    have n2 : (a == 43) = false := by
      rw [beq_eq_false_iff_ne]; rintro rfl; exact absurd hd.1 (by decide)
    simp only [Lib.atoi, n1, n2, h2]
    rfl
theorem decFrom_five {l : List UInt8} {k : Nat} (hl : l.length ≤ 5) (h : Lib.decFrom 0 l = some k) : k ≤ 99999 := by
  have h1 := Lib.decFrom_lt l 0 k h
  have hp : 10 ^ l.length ≤ 10 ^ 5 := Nat.pow_le_pow_right (by decide) hl
  have : (10 : Nat) ^ 5 = 100000 := by decide
  omega
/-- A word that is a number, as the program asks it. -/
def isNum (l : List UInt8) : Bool := decide (0 ≤ atoiV l ∧ atoiV l ≤ 99999 ∧ Lib.itoa (atoiV l) = l)
theorem numF_digits {k : Nat} (h : k ≤ 99999) : numF (Lib.decDigits k) = k ∧ atoiV (Lib.decDigits k) = k := by
  obtain ⟨h1, h2⟩ := dec_digits k
  have hl := Lib.decDigits_length k
  have hp := Lib.nDigits_pos k
  have h5 := nDigits_five h
  have hne : Lib.decDigits k ≠ [] := by intro e; rw [e] at hl; simp at hl; omega
  refine ⟨?_, atoiV_dec (by omega) hne h1⟩
  unfold numF
  rw [if_neg, show (0 : Int) = ((0 : Nat) : Int) from rfl, numGo_dec, h1]
  · rfl
  · rintro (e | e | ⟨e1, e2⟩)
    · omega
    · omega
    · by_cases h1 : 1 ≤ k
      · exact h2 h1 e2
      · have : k = 0 := by omega
        subst this
        rw [Lib.decDigits_one (by omega)] at e1
        simp at e1
theorem isNum_yes {l : List UInt8} (h : isNum l = true) : numF l = atoiV l ∧ 0 ≤ atoiV l ∧ atoiV l ≤ 99999 := by
  have h := of_decide_eq_true h
  obtain ⟨h0, h1, h2⟩ := h
  refine ⟨?_, h0, h1⟩
  unfold Lib.itoa at h2
  rw [if_neg (by omega)] at h2
  have := (numF_digits (k := (atoiV l).toNat) (by omega)).1
  rw [h2] at this
  rw [this]; omega
theorem isNum_no {l : List UInt8} (h : isNum l = false) : numF l = -1 := by
  have h := of_decide_eq_false h
  unfold numF
  split
  · rfl
  · rename_i hc
    cases hg : numGo 0 l with
    | none => rfl
    | some z =>
      exfalso
      apply h
      have hd := numGo_dec l 0
      rw [show ((0 : Nat) : Int) = 0 from rfl, hg] at hd
      cases hf : Lib.decFrom 0 l with
      | none => rw [hf] at hd; simp at hd
      | some k =>
        have hlen : l.length ≤ 5 ∧ l.length ≠ 0 := by
          constructor
          · have := fun e => hc (.inr (.inl e)); omega
          · exact fun e => hc (.inl e)
        have hne : l ≠ [] := by intro e; simp [e] at hlen
        have ha := atoiV_dec (by omega) hne hf
        have hk := decFrom_five hlen.1 hf
        rw [ha]
        refine ⟨by omega, by omega, ?_⟩
        unfold Lib.itoa
        rw [if_neg (by omega), show ((k : Int)).toNat = k by omega]
        by_cases hh : l.head? = some 48
        · have h1 : ¬ 1 < l.length := fun e => hc (.inr (.inr ⟨e, hh⟩))
          obtain ⟨b, rfl⟩ := List.length_eq_one_iff.1 (show l.length = 1 by omega)
          have : b = 48 := by simpa using hh
          subst this
          have : k = 0 := by
            have : Lib.decFrom 0 [48] = some 0 := by decide +kernel
            rw [this] at hf; injection hf with hf; omega
          subst this
          rw [Lib.decDigits_one (by omega)]; rfl
        · exact (dec_back (l.length - 1) l k (by omega) hh hf).2
theorem index_app : ∀ (x r : List UInt8), (∀ b ∈ x, b ≠ 32) → Lib.index (x ++ 32 :: r) [32] = x.length
  | [], r, _ => by simp [Lib.index]
  | b :: x, r, h => by
    have ih := index_app x r (fun c hc => h c (by simp [hc]))
    have hb : ¬ b = 32 := h b (by simp)
    have hb' : (32 == b) = false := by simp; exact fun e => hb e.symm
    have hp : [32].isPrefixOf (b :: (x ++ 32 :: r)) = false := by simp [List.isPrefixOf, hb']
    have h1 : (((x.length : Nat) : Int) == -1) = false := by simp
    simp only [List.cons_append]
    unfold Lib.index
    rw [hp, ih, h1]
    simp
theorem cut_app (x r : List UInt8) (h : ∀ b ∈ x, b ≠ 32) : Lib.cut (x ++ 32 :: r) [32] = (x, r, true) := by
  unfold Lib.cut
  rw [index_app x r h]
  have : (0 : Int) ≤ (x.length : Int) := by omega
  rw [if_pos this]
  simp
theorem cut_len (s : List UInt8) : (Lib.cut s [32]).1.length ≤ s.length ∧ (Lib.cut s [32]).2.1.length ≤ s.length := by
  unfold Lib.cut
  split
  · simp only [List.length_take, List.length_drop]; omega
  · simp
theorem blank_or : ∀ l : List UInt8, (∀ b ∈ l, b ≠ 32) ∨ ∃ x r, l = x ++ 32 :: r ∧ ∀ b ∈ x, b ≠ 32
  | [] => .inl (by simp)
  | b :: l => by
    by_cases hb : b = 32
    · exact .inr ⟨[], l, by simp [hb], by simp⟩
    · rcases blank_or l with h | ⟨x, r, e, h⟩
      · left; intro c hc
        rcases List.mem_cons.1 hc with rfl | hc
        · exact hb
        · exact h c hc
      · right
        refine ⟨b :: x, r, by simp [e], fun c hc => ?_⟩
        rcases List.mem_cons.1 hc with rfl | hc
        · exact hb
        · exact h c hc
theorem index_none : ∀ (x : List UInt8), (∀ b ∈ x, b ≠ 32) → Lib.index x [32] = -1
  | [], _ => by simp [Lib.index]
  | b :: x, h => by
    have ih := index_none x (fun c hc => h c (by simp [hc]))
    have hb : ¬ b = 32 := h b (by simp)
    have hb' : (32 == b) = false := by simp; exact fun e => hb e.symm
    have hp : [32].isPrefixOf (b :: x) = false := by simp [List.isPrefixOf, hb']
    unfold Lib.index
    rw [hp, ih]
    simp
theorem cut_none (x : List UInt8) (h : ∀ b ∈ x, b ≠ 32) : Lib.cut x [32] = (x, [], false) := by
  unfold Lib.cut
  rw [index_none x h, if_neg (by omega)]
theorem len_two {α : Type} {l : List α} (h : l.length = 2) : ∃ a b, l = [a, b] := by
  match l, h with
  | [a, b], _ => exact ⟨a, b, rfl⟩
/-- The numbers that a text's words are; none, if one of them is no number. -/
def numsOf (r : List UInt8) : List Int := if (words r).all isNum = true then (words r).map atoiV else []
theorem isNum_nil : isNum [] = false := by decide +kernel
theorem nums_nil : numsOf [] = [] := by
  unfold numsOf
  rw [show words [] = [[]] from rfl]
  simp [isNum_nil]
/-- What the model asks of so many words behind the first one. -/
def twoB (ws : List (List UInt8)) (n : Nat) : Prop := ws.length = n + 1 ∧ ∀ i : Nat, 1 ≤ i → i ≤ n → 0 ≤ atF ws i
theorem num_or (l : List UInt8) : (isNum l = true ∧ numF l = atoiV l ∧ 0 ≤ atoiV l) ∨ (isNum l = false ∧ numF l = -1) := by
  cases h : isNum l with
  | true => exact .inl ⟨rfl, (isNum_yes h).1, (isNum_yes h).2.1⟩
  | false => exact .inr ⟨rfl, isNum_no h⟩
theorem one_yes {x r : List UInt8} (h : twoB (x :: words r) 1) : numsOf r = [atF (x :: words r) 1] := by
  obtain ⟨h1, h2⟩ := h
  have h2 := h2 1 (by omega) (by omega)
  obtain ⟨l, e⟩ := List.length_eq_one_iff.1 (show (words r).length = 1 by simpa using h1)
  rw [e] at h2 ⊢
  unfold numsOf
  rw [e]
  simp only [atF, List.getElem?_cons_succ, List.getElem?_cons_zero] at h2 ⊢
  rcases num_or l with ⟨a, b, c⟩ | ⟨a, b⟩
  · simp [a, b]
  · omega
theorem one_no {x r : List UInt8} (h : ¬ twoB (x :: words r) 1) : ¬ (numsOf r).length = 1 := by
  intro e
  apply h
  unfold numsOf at e
  split at e
  · rename_i ha
    rw [List.length_map] at e
    obtain ⟨l, e'⟩ := List.length_eq_one_iff.1 e
    rw [e'] at ha
    simp at ha
    refine ⟨by simp [e'], fun i h1 h2 => ?_⟩
    obtain rfl : i = 1 := by omega
    rw [e']
    simp only [atF, List.getElem?_cons_succ, List.getElem?_cons_zero]
    have := isNum_yes ha
    omega
  · simp at e
theorem two_yes {x r : List UInt8} (h : twoB (x :: words r) 2) : numsOf r = [atF (x :: words r) 1, atF (x :: words r) 2] := by
  obtain ⟨h1, h2⟩ := h
  have h3 := h2 1 (by omega) (by omega)
  have h4 := h2 2 (by omega) (by omega)
  obtain ⟨l, k, e⟩ := len_two (show (words r).length = 2 by simpa using h1)
  rw [e] at h3 h4 ⊢
  unfold numsOf
  rw [e]
  simp only [atF, List.getElem?_cons_succ, List.getElem?_cons_zero] at h3 h4 ⊢
  rcases num_or l with ⟨a, b, c⟩ | ⟨a, b⟩
  · rcases num_or k with ⟨a', b', c'⟩ | ⟨a', b'⟩
    · simp [a, b, a', b']
    · omega
  · omega
theorem two_no {x r : List UInt8} (h : ¬ twoB (x :: words r) 2) : ¬ (numsOf r).length = 2 := by
  intro e
  apply h
  unfold numsOf at e
  split at e
  · rename_i ha
    rw [List.length_map] at e
    obtain ⟨l, k, e'⟩ := len_two e
    rw [e'] at ha
    simp at ha
    refine ⟨by simp [e'], fun i h1 h2 => ?_⟩
    have : i = 1 ∨ i = 2 := by omega
    rw [e']
    have q1 := isNum_yes ha.1
    have q2 := isNum_yes ha.2
    rcases this with rfl | rfl
    · simp only [atF, List.getElem?_cons_succ, List.getElem?_cons_zero]; omega
    · simp only [atF, List.getElem?_cons_succ, List.getElem?_cons_zero]; omega
  · simp at e
end Go.Proofs.YtlmoeacpkkkkcaaGreatDoor
namespace Go.Proofs.YtlmoeacpkkkkcaaGreatDoor
open Go.RowKit Go.Deep
set_option linter.unusedVariables false
end Go.Proofs.YtlmoeacpkkkkcaaGreatDoor
namespace Go.Proofs.YtlmoeacpkkkkcaaGreatDoor
open Go.RowKit
set_option linter.unusedVariables false
set_option maxRecDepth 20000
/-- A row of numbers. -/
def ints (ns : List Int) : List Value := ns.map fun n => .int .i64 n
theorem within_yes (n : Int) (h0 : 0 ≤ n) (h1 : n ≤ 99999) (w : World) : Calls Tryz.prog 42 #[.int .i64 n, .int .i64 0, .int .i64 99999] w fun e w' => e = .returned (.bool true) ∧ w' = w := by
  go_enter Tryz.func42, Tryz.ntmps42
  go_wp2
  go_ret
  exact ⟨rfl, rfl⟩
theorem within_no (n : Int) (h : ¬ (0 ≤ n ∧ n ≤ 99999)) (w : World) : Calls Tryz.prog 42 #[.int .i64 n, .int .i64 0, .int .i64 99999] w fun e w' => e = .returned (.bool false) ∧ w' = w := by
  by_cases h0 : 0 ≤ n
  · have h1 : ¬ n ≤ 99999 := fun e => h ⟨h0, e⟩
    go_enter Tryz.func42, Tryz.ntmps42
    go_wp2
    go_ret
    exact ⟨by simp, rfl⟩
  · go_enter Tryz.func42, Tryz.ntmps42
    go_wp2
    go_ret
    exact ⟨by simp, rfl⟩
end Go.Proofs.YtlmoeacpkkkkcaaGreatDoor
namespace Go.Proofs.YtlmoeacpkkkkcaaGreatDoor
open Go.RowKit
set_option linter.unusedVariables false
set_option maxRecDepth 20000
theorem Tryz.info3k : (Tryz.prog.info? 3).map (fun i => (i.zero, i.size, i.bytes)) = some (some (.int .i64 0), 1, 8) := by kernel_rfl
theorem ints_snoc (A : List Int) (n : Int) : ints (A ++ [n]) = ints A ++ [.int .i64 n] := by simp [ints]
theorem row_below {w w' : World} {base e size n : Nat} {v : Value} {xs : List Value} (h : w.ownsRow base e size v n xs) (hb : Below w.heap.size w w') : w'.ownsRow base e size v n xs :=
  h.kept (w' := w') (row := none) ⟨hb.os, hb.tape, hb.output, hb.size, fun k hk _ => hb.block k hk⟩ (by cases hv : v.ownBlock <;> simp)
/-- A word that is a number, held against what its number is written as. -/
theorem isNum_dd (l : List UInt8) (h0 : 0 ≤ atoiV l) (h1 : atoiV l ≤ 99999) : isNum l = decide (DD (atoiV l) = ⟨l.toArray⟩) := by
  unfold isNum
  rw [Lib.itoa, if_neg (by omega)]
  by_cases h : Lib.decDigits (atoiV l).toNat = l
  · have : DD (atoiV l) = ⟨l.toArray⟩ := by unfold DD; rw [h]
    simp [h0, h1, h, this]
  · have : ¬ DD (atoiV l) = ⟨l.toArray⟩ := by
      intro e
      apply h
      have := congrArg (fun x : ByteArray => x.data.toList) e
      simpa [DD] using this
    simp [h, this]
theorem isNum_out (l : List UInt8) (h : ¬ (0 ≤ atoiV l ∧ atoiV l ≤ 99999)) : isNum l = false := by
  unfold isNum
  rw [decide_eq_false_iff_not]
  exact fun e => h ⟨e.1, e.2.1⟩
theorem nums_no {ps : List ByteArray} {t : List UInt8} (hps : ps.map (fun x => x.data.toList) = words t) {k : Nat} {x : ByteArray} (hx : ps[k]? = some x) (h : isNum x.data.toList = false) : numsOf t = [] := by
  unfold numsOf
  rw [if_neg]
  intro e
  have hm : x.data.toList ∈ words t := by rw [← hps]; exact List.mem_map.2 ⟨x, List.mem_of_getElem? hx, rfl⟩
  have := List.all_eq_true.1 e _ hm
  rw [h] at this
  cases this
theorem nums_all {ps : List ByteArray} {t : List UInt8} (hps : ps.map (fun x => x.data.toList) = words t) (h : ∀ (k : Nat) (x : ByteArray), ps[k]? = some x → isNum x.data.toList = true) : numsOf t = ps.map fun x => atoiV x.data.toList := by
  unfold numsOf
  rw [if_pos]
  · rw [← hps, List.map_map]; rfl
  · rw [← hps, List.all_eq_true]
    intro l hl
    obtain ⟨x, hx, rfl⟩ := List.mem_map.1 hl
    obtain ⟨k, hk⟩ := List.getElem?_of_mem hx
    exact h k x hk
set_option maxHeartbeats 4000000 in
theorem line_numbers (t : ByteArray) (ht : t.size ≤ 100) (w : World) (hE : Env w) :
    Calls Tryz.prog 46 #[.string t] w fun e w' => ∃ v, e = .returned v ∧ w'.ownsRow w.heap.size 3 1 v (numsOf t.data.toList).length (ints (numsOf t.data.toList)) ∧ Below w.heap.size w w' := by
  obtain ⟨i0, hi, hz0, hz1, hz2⟩ := info_parts Tryz.info3k
  have HE := hid hE
  clear hE
  go_enter Tryz.func46, Tryz.ntmps46
  go_wp2_with fail
  refine (split_eq t ht _ HE.out).mono ?_
  rintro e w1 ⟨ps, hps, rfl, e1⟩
  have hb1 : Below w.heap.size w w1 := by rw [e1]; exact (Below.refl _ _).alloc (Nat.le_refl _) _
  have hcell : ∀ (k : Nat) (x : ByteArray), ps[k]? = some x → w1.cell? ⟨w.heap.size, k, none⟩ = some (.string x) := by
    intro k x hx
    rw [e1]
    simp [hx]
  have hlt : w.heap.size < w1.heap.size := by rw [e1]; simp
  have hpl : ps.length ≤ 101 := by
    have h1 := wlen t.data.toList
    rw [size_len, ← hps, List.length_map] at h1
    omega
  have hxs : ∀ (k : Nat) (x : ByteArray), ps[k]? = some x → x.size ≤ 100 := by
    intro k x hx
    have hm : x.data.toList ∈ words t.data.toList := by rw [← hps]; exact List.mem_map.2 ⟨x, List.mem_of_getElem? hx, rfl⟩
    have := word_len t.data.toList _ hm
    rw [size_len, size_len] at this
    omega
  have HE1 := hid (HE.out.on hb1)
  have HPS := hid hps
  have HB1 := hid hb1
  have HC := hid hcell
  have HX := hid hxs
  clear e1 hps hb1 hcell hxs HE
  go_wp2
  go_loopw [3, 10] (fun v i wr => ∃ k : Nat, k ≤ ps.length ∧ .int .i64 k = i ∧ Hid (∀ (j : Nat) (x : ByteArray), j < k → ps[j]? = some x → isNum x.data.toList = true) ∧ wr.ownsRow w1.heap.size 3 1 v k (ints ((ps.take k).map fun x => atoiV x.data.toList)) ∧ Hid (Below w1.heap.size w1 wr)) (fun _ i _ => ps.length - (intOf i).toNat)
  case atStart => exact ⟨0, Nat.zero_le _, rfl, fun j x h => absurd h (Nat.not_lt_zero _), World.ownsRow_nil _ _ _ _, Below.refl _ _⟩
  case round =>
    obtain ⟨k, hk, rfl, hall, hown, hbel⟩ := hrel
    by_cases hks : k < ps.length
    · obtain ⟨x, hx⟩ : ∃ x, ps[k]? = some x := ⟨_, List.getElem?_eq_getElem hks⟩
      have hxk := HX.out k x hx
      have hcx : wr.cell? ⟨w.heap.size, k, none⟩ = some (.string x) := (hbel.out.cell (p := ⟨w.heap.size, k, none⟩) hlt).trans (HC.out k x hx)
      have hks' : (k : Int) < (ps.length : Int) := by omega
      have HO := hid hown
      have HXK := hid hx
      clear hown hx
      go_wp2_with fail
      refine (loose x (by omega) _ (HE1.out.on hbel.out)).mono ?_
      rintro e w2 ⟨rfl, hb2⟩
      have HB2 := hid (bthen hbel.out hb2)
      have HO2 := hid (row_below HO.out hb2)
      clear hb2 hcx hbel HO
      by_cases hin : 0 ≤ atoiV x.data.toList ∧ atoiV x.data.toList ≤ 99999
      · obtain ⟨n0, n1⟩ := hin
        go_wp2_with fail
        refine (within_yes _ n0 n1 _).mono ?_
        rintro e w3 ⟨rfl, rfl⟩
        go_wp2_with fail
        refine (itoa_tab _ n0 (by omega) _ ((HE1.out.on HB2.out).tab _ (Below.refl _ _))).mono ?_
        rintro e w4 ⟨rfl, hb4⟩
        have HB4 := hid (bthen HB2.out hb4)
        have HO4 := hid (row_below HO2.out hb4)
        clear hb4 HO2
        have HN : Hid (((DD (atoiV x.data.toList)).toList == x.toList) = isNum x.data.toList) := by
          unfold Hid
          rw [list_eq, isNum_dd _ n0 n1]
        cases hnum : isNum x.data.toList with
        | false =>
          have hne : ((DD (atoiV x.data.toList)).toList == x.toList) = false := HN.out.trans hnum
          have HR : Hid (numsOf t.data.toList = []) := nums_no HPS.out HXK.out hnum
          go_wp2
          go_ret
          exact ⟨_, rfl, by rw [HR.out]; exact World.ownsRow_nil _ _ _ _, bthen HB1.out HB4.out⟩
        | true =>
          have hne : ((DD (atoiV x.data.toList)).toList == x.toList) = true := HN.out.trans hnum
          have hown := HO4.out
          have hbel := HB4.out
          go_wp2_with (at_builtin; refine wpList_append_own _ rfl _ _ 90 rfl w1.heap.size 3 i0 (.int .i64 0) 1 8 Tryz.underlying90 hi hz0 hz1 hz2 rfl (by decide) _ _ _ rfl (hown.alloc _) ⟨w4.heap.size, 0, none⟩ 1 1 [.int .i64 (atoiV x.data.toList)] rfl rfl ?c1 ?c2 ?c3 ?c4 ?c5 ?_)
          case c1 =>
            intro j u hj
            match j, hj with
            | 0, hj => simp at hj; subst hj; simp [Addr.add]
          case c2 => intro u hu; simp at hu; subst hu; rfl
          case c3 => unfold maxLen; omega
          case c4 => omega
          case c5 => have := hbel.size; simp; omega
          · intro v' w5 hown' hgrow _
            have hbel1 : Below w1.heap.size w1 w5 := (hbel.alloc hbel.size _).grown hgrow (by have := hbel.size; simp; omega) (fun kk e => (hown.lt kk e).1)
            have HB5 := hid hbel1
            have HO5 := hid hown'
            clear hgrow hown hbel hown' hbel1
            go_wp2
            go_roundw
            case rel =>
              refine ⟨k + 1, by omega, by go_num, fun j y hj hy => ?_, ?_, HB5.out⟩
              · by_cases hjk : j = k
                · subst hjk
                  have : y = x := Option.some.inj (hy.symm.trans HXK.out)
                  rw [this]; exact hnum
                · exact hall.out j y (by omega) hy
              · have e : ps.take (k + 1) = ps.take k ++ [x] := by rw [List.take_add_one, HXK.out]; rfl
                rw [e, List.map_append, List.map_cons, List.map_nil, ints_snoc, List.map_take]
                exact HO5.out
            case measure => simp [intOf]; omega
      · have HR : Hid (numsOf t.data.toList = []) := nums_no HPS.out HXK.out (isNum_out _ hin)
        go_wp2_with fail
        refine (within_no _ hin _).mono ?_
        rintro e w3 ⟨rfl, rfl⟩
        go_wp2
        go_ret
        exact ⟨_, rfl, by rw [HR.out]; exact World.ownsRow_nil _ _ _ _, bthen HB1.out HB2.out⟩
    · obtain rfl : k = ps.length := by omega
      have HR : Hid (numsOf t.data.toList = ps.map fun x => atoiV x.data.toList) := nums_all HPS.out (fun j y hy => hall.out j y (List.getElem?_eq_some_iff.1 hy).1 hy)
      have HO := hid hown
      clear hown
      go_wp2
      go_ret
      refine ⟨_, rfl, ?_, bthen HB1.out hbel.out⟩
      rw [HR.out, List.length_map]
      have h := HO.out
      rw [List.take_length] at h
      exact ⟨h.1, h.2.imp id (fun ⟨g, cap, cur, a, b, c⟩ => ⟨g, cap, cur, a, Nat.le_trans (Nat.le_of_lt hlt) b, c⟩)⟩
end Go.Proofs.YtlmoeacpkkkkcaaGreatDoor
