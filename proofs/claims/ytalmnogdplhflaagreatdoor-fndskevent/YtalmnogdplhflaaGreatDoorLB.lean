/- What is carried: lemmas on lists, cells and draws; conditions: those typed. -/
import Derived.WalkKit
import Derived.ProofKit
import Derived.OpenShut
import Derived.Below
import Derived.BigQuiet
import Derived.Test.YtalmnogdplhflaaGreatDoorRows
import Derived.WalkSpells
import Derived.Lib.ItoaNum
import Derived.Test.YtalmnogdplhflaaGreatDoorShelf
import Derived.Lib.AppendIntMem
import Derived.Deep.RegionHeld3
import Derived.Deep.QuietTactic
import Derived.Lib.AtoiAll
import Derived.Lib.Split
import Derived.Lib.SplitLaws
import Derived.Lib.IndexBytes
import Derived.Lib.AtoiErrMem
import Derived.LoopTactic
import Derived.OwnWalk
import Derived.Laws.IdiomCopy
import Derived.WideMake
import Derived.Laws.OwnMore
import Derived.Deep.RegionWith
import Derived.Deep.DeepCutAuto
import Derived.Lib.AppendZerosOnto
import Derived.Test.YtalmnogdplhflaaGreatDoorLA
namespace Go.Proofs.YtalmnogdplhflaaGreatDoor
open Go.RowKit Go.ChangeShapes Go.WideShapes Go.ChangeAt
end Go.Proofs.YtalmnogdplhflaaGreatDoor
namespace Go.Proofs.YtalmnogdplhflaaGreatDoor
open Go.RowKit
set_option linter.unusedVariables false
end Go.Proofs.YtalmnogdplhflaaGreatDoor
namespace Go.Proofs.YtalmnogdplhflaaGreatDoor
open Go.RowKit
set_option linter.unusedVariables false
end Go.Proofs.YtalmnogdplhflaaGreatDoor
namespace Go.Proofs.YtalmnogdplhflaaGreatDoor
open Go.RowKit
set_option linter.unusedVariables false
end Go.Proofs.YtalmnogdplhflaaGreatDoor
namespace Go.Proofs.YtalmnogdplhflaaGreatDoor
open Go.RowKit
set_option linter.unusedVariables false
end Go.Proofs.YtalmnogdplhflaaGreatDoor
namespace Go.Proofs.YtalmnogdplhflaaGreatDoor
open Go.RowKit
set_option linter.unusedVariables false
end Go.Proofs.YtalmnogdplhflaaGreatDoor
namespace Go.Proofs.YtalmnogdplhflaaGreatDoor
open Go.RowKit
set_option linter.unusedVariables false
end Go.Proofs.YtalmnogdplhflaaGreatDoor
namespace Go.Proofs.YtalmnogdplhflaaGreatDoor
open Go.RowKit
set_option linter.unusedVariables false
end Go.Proofs.YtalmnogdplhflaaGreatDoor
namespace Go.Proofs.YtalmnogdplhflaaGreatDoor
open Go.RowKit
set_option linter.unusedVariables false
end Go.Proofs.YtalmnogdplhflaaGreatDoor
namespace Go.Proofs.YtalmnogdplhflaaGreatDoor
open Go.RowKit
set_option linter.unusedVariables false
end Go.Proofs.YtalmnogdplhflaaGreatDoor
namespace Go.Proofs.YtalmnogdplhflaaGreatDoor
open Go.RowKit
set_option linter.unusedVariables false
/-- What Atoi hands back beside its error. -/
def atoiV (l : List UInt8) : Int := match Lib.atoiAll l with
  | .ok v => v
  | .syntax => 0
  | .range => Lib.atoiSat l
/-- The model's loop over a word's bytes; none, if one is no digit. -/
def numGo : Int → List UInt8 → Option Int
  | n, [] => some n
  | n, b :: r => if b.toNat < 48 ∨ 57 < b.toNat then none else numGo (n * 10 + (b.toNat - 48 : Nat)) r
def numF (l : List UInt8) : Int :=
  if l.length = 0 ∨ 5 < l.length ∨ (1 < l.length ∧ l.head? = some 48) then -1 else (numGo 0 l).getD (-1)
def goodDigits (n : Nat) : Bool := (Lib.decDigits n).all (fun b => b != 32) && decide ((Lib.decDigits n).length ≤ 3) && decide (atoiV (Lib.decDigits n) = n) && decide (numF (Lib.decDigits n) = n)
theorem digits_all : ∀ n, n < 901 → goodDigits n = true := by decide +kernel
end Go.Proofs.YtalmnogdplhflaaGreatDoor
namespace Go.Proofs.YtalmnogdplhflaaGreatDoor
open Go.RowKit
set_option linter.unusedVariables false
def words : List UInt8 → List (List UInt8)
  | [] => [[]]
  | b :: r => if b = 32 then [] :: words r else match words r with
    | w :: ws => (b :: w) :: ws
    | [] => [[b]]
def wordsGo : List UInt8 → List UInt8 → List (List UInt8)
  | cur, [] => [cur]
  | cur, b :: r => if b = 32 then cur :: wordsGo [] r else wordsGo (cur ++ [b]) r
theorem words_cons : ∀ l, ∃ w ws, words l = w :: ws
  | [] => ⟨_, _, rfl⟩
  | b :: r => by
    unfold words
    split
    · exact ⟨_, _, rfl⟩
    · split <;> exact ⟨_, _, rfl⟩
theorem wordsGo_eq : ∀ (l cur : List UInt8) (w : List UInt8) (ws : List (List UInt8)), words l = w :: ws → wordsGo cur l = (cur ++ w) :: ws
  | [], cur, w, ws, h => by
    simp [words] at h; obtain ⟨rfl, rfl⟩ := h; simp [wordsGo]
  | b :: r, cur, w, ws, h => by
    obtain ⟨w', ws', e⟩ := words_cons r
    unfold words at h
    unfold wordsGo
    by_cases hb : b = 32
    · rw [if_pos hb] at h ⊢
      injection h with h1 h2
      subst h1
      rw [wordsGo_eq r [] w' ws' e, ← h2, e]; simp
    · rw [if_neg hb] at h ⊢
      rw [e] at h
      injection h with h1 h2
      rw [wordsGo_eq r (cur ++ [b]) w' ws' e, ← h1, ← h2]; simp
theorem words_go (l : List UInt8) : wordsGo [] l = words l := by
  obtain ⟨w, ws, e⟩ := words_cons l
  rw [wordsGo_eq l [] w ws e, e]; rfl
theorem idx_pos : ∀ l : List UInt8, 0 < l.count 32 → 0 ≤ Lib.indexByte l 32
  | [], h => by simp at h
  | b :: r, h => by
    unfold Lib.indexByte
    by_cases hb : b = 32
    · subst hb; simp
    · have hc : 0 < r.count 32 := by
        rw [List.count_cons] at h
        have : (b == 32) = false := by simpa using hb
        rw [this] at h; simpa using h
      have := idx_pos r hc
      have hb' : (b == 32) = false := by simpa using hb
      rw [hb']
      simp only [Bool.false_eq_true, if_false]
      split
      · rename_i g; simp only [beq_iff_eq] at g; omega
      · omega
theorem split_words : ∀ l : List UInt8, Lib.splitK [32] 0 (l.count 32) l = words l
  | [] => rfl
  | b :: r => by
    have ih := split_words r
    by_cases hb : b = 32
    · subst hb
      have hi : Lib.index (32 :: r) [32] = 0 := by rw [Lib.index_one]; simp [Lib.indexByte]
      rw [List.count_cons_self]
      unfold Lib.splitK
      rw [hi]
      simp only [words, if_true]
      rw [← ih]
      simp
    · have hb' : (b == 32) = false := by simpa using hb
      have hc : (b :: r).count 32 = r.count 32 := by rw [List.count_cons, hb']; simp
      rw [hc]
      unfold words
      rw [if_neg hb]
      cases hk : r.count 32 with
      | zero =>
        rw [hk] at ih
        have e : words r = [r] := by rw [← ih]; rfl
        rw [e]; rfl
      | succ k =>
        rw [hk] at ih
        have hp := idx_pos r (by omega)
        have hir : Lib.index r [32] = Lib.indexByte r 32 := Lib.index_one r 32
        have hi : Lib.index (b :: r) [32] = Lib.indexByte r 32 + 1 := by
          rw [Lib.index_one]
          conv => lhs; unfold Lib.indexByte
          rw [hb']
          simp only [Bool.false_eq_true, if_false]
          have : (Lib.indexByte r 32 == -1) = false := by simp; omega
          rw [this]; simp
        unfold Lib.splitK at ih ⊢
        rw [hi]
        rw [hir] at ih
        have n1 : (Lib.indexByte r 32 == -1) = false := by simp; omega
        have n2 : (Lib.indexByte r 32 + 1 == -1) = false := by simp; omega
        rw [n1] at ih
        rw [n2]
        simp only [Bool.false_eq_true, if_false] at ih ⊢
        rw [← ih]
        have t1 : (Lib.indexByte r 32 + 1).toNat = (Lib.indexByte r 32).toNat + 1 := by omega
        rw [t1]
        simp
theorem words_app : ∀ (x r : List UInt8), (∀ b ∈ x, b ≠ 32) → words (x ++ 32 :: r) = x :: words r
  | [], r, _ => by simp [words]
  | b :: x, r, h => by
    have ih := words_app x r (fun c hc => h c (by simp [hc]))
    have hb : ¬ b = 32 := h b (by simp)
    simp only [List.cons_append]
    rw [words, if_neg hb, ih]
theorem words_last : ∀ (x : List UInt8), (∀ b ∈ x, b ≠ 32) → words x = [x]
  | [], _ => rfl
  | b :: x, h => by
    have ih := words_last x (fun c hc => h c (by simp [hc]))
    have hb : ¬ b = 32 := h b (by simp)
    unfold words
    rw [if_neg hb, ih]
theorem good_digits (n : Int) (h0 : 0 ≤ n) (h1 : n ≤ 900) : (∀ b ∈ Lib.decDigits n.toNat, b ≠ 32) ∧ (Lib.decDigits n.toNat).length ≤ 3 ∧ atoiV (Lib.decDigits n.toNat) = n ∧ numF (Lib.decDigits n.toNat) = n := by
  have g := digits_all n.toNat (by omega)
  unfold goodDigits at g
  simp only [Bool.and_eq_true, decide_eq_true_eq, List.all_eq_true, bne_iff_ne] at g
  obtain ⟨⟨⟨g1, g2⟩, g3⟩, g4⟩ := g
  have e : ((n.toNat : Nat) : Int) = n := by omega
  rw [e] at g3 g4
  exact ⟨g1, g2, g3, g4⟩
end Go.Proofs.YtalmnogdplhflaaGreatDoor
namespace Go.Proofs.YtalmnogdplhflaaGreatDoor
open Go.RowKit
set_option linter.unusedVariables false
/-- What the library's functions ask of its own variables, in every world that has only grown. -/
def Env (w : World) : Prop := ∀ w', Below w.heap.size w w' → (∃ m, w'.cell? ⟨0, 0, none⟩ = some (.int .i64 m)) ∧ (∃ t p, w'.cell? ⟨1, 0, none⟩ = some (.iface t p)) ∧ (∃ t p, w'.cell? ⟨2, 0, none⟩ = some (.iface t p)) ∧ Lib.TabIs Tryz.prog w' "internal/strconv.uint64pow10" .u64 Lib.pow10Tab
theorem Env.on {w w1 : World} (h : Env w) (hb : Below w.heap.size w w1) : Env w1 := fun w' h' => h w' (bthen hb h')
theorem Env.tab {w : World} (h : Env w) : Lib.TabBelow Tryz.prog w.heap.size w "internal/strconv.uint64pow10" .u64 Lib.pow10Tab := fun w' h' => (h w' h').2.2.2
theorem loose (s : ByteArray) (hs : s.size ≤ 1000) (w : World) (hE : Env w) :
    Calls Tryz.prog 27 #[.string s] w fun e w' => e = .returned (.int .i64 (atoiV s.data.toList)) ∧ Below w.heap.size w w' := by
  obtain ⟨_, ⟨t1, p1, c1⟩, ⟨t2, p2, c2⟩, _⟩ := hE w (Below.refl _ _)
  cases h : Lib.atoiAll s.data.toList with
  | ok v =>
    have E : Hid (atoiV s.data.toList = v) := by show atoiV s.data.toList = v; unfold atoiV; rw [h]
    clear c1 c2 hE
    go_enter Tryz.func27, Tryz.ntmps27
    go_wp2_with fail
    refine (Tryz.strconv_Atoi_ok s (by omega) v h w).mono ?_
    rintro e w' ⟨rfl, hw⟩
    have hb : Below w.heap.size w w' := by
      rcases hw with rfl | ⟨t, rfl⟩
      · exact Below.refl _ _
      · exact Lib.bytesWorld_below _ _ _
    clear hw
    go_wp2
    go_ret
    exact ⟨by rw [E.out]; rfl, hb⟩
  | «syntax» =>
    have E : Hid (atoiV s.data.toList = 0) := by show atoiV s.data.toList = 0; unfold atoiV; rw [h]
    go_enter Tryz.func27, Tryz.ntmps27
    go_wp2_with fail
    refine (Tryz.strconv_Atoi_syntax s (by omega) h _ w c1 (.inr ⟨_, _, rfl⟩)).mono ?_
    rintro e w' ⟨N, rfl, _, _, hb⟩
    clear c1 c2 hE
    go_wp2
    go_ret
    exact ⟨by rw [E.out]; rfl, hb⟩
  | range =>
    have E : Hid (atoiV s.data.toList = Lib.atoiSat s.data.toList) := by show atoiV s.data.toList = _; unfold atoiV; rw [h]
    go_enter Tryz.func27, Tryz.ntmps27
    go_wp2_with fail
    refine (Tryz.strconv_Atoi_range s (by omega) h _ w c2 (.inr ⟨_, _, rfl⟩)).mono ?_
    rintro e w' ⟨N, rfl, _, _, hb⟩
    clear c1 c2 hE
    go_wp2
    go_ret
    exact ⟨by rw [E.out]; rfl, hb⟩
theorem numF_long {l : List UInt8} (h : 5 < l.length) : numF l = -1 := by
  unfold numF; rw [if_pos (.inr (.inl h))]
theorem numF_zero {r : List UInt8} (h : 0 < r.length) : numF (48 :: r) = -1 := by
  unfold numF; rw [if_pos (.inr (.inr ⟨by simpa using h, rfl⟩))]
theorem numF_go {b : UInt8} {r : List UInt8} (h : r.length ≤ 4) (h0 : ¬ (0 < r.length ∧ b = 48)) : numF (b :: r) = (numGo 0 (b :: r)).getD (-1) := by
  unfold numF
  rw [if_neg]
  rintro (h1 | h1 | ⟨h1, h2⟩)
  · simp at h1
  · simp at h1; omega
  · simp at h1 h2; exact h0 ⟨by omega, h2⟩
theorem numGo_step {l : List UInt8} {k : Nat} (hk : k < l.length) (z : Int) (h0 : ¬ l[k].toNat < 48) (h1 : ¬ 57 < l[k].toNat) : numGo z (l.drop k) = numGo (z * 10 + (l[k].toNat - 48 : Nat)) (l.drop (k + 1)) := by
  rw [List.drop_eq_getElem_cons hk]
  conv => lhs; unfold numGo
  rw [if_neg (by omega)]
theorem numGo_bad {l : List UInt8} {k : Nat} (hk : k < l.length) (z : Int) (h : l[k].toNat < 48 ∨ 57 < l[k].toNat) : numGo z (l.drop k) = none := by
  rw [List.drop_eq_getElem_cons hk]
  unfold numGo
  rw [if_pos h]
theorem size_len (s : ByteArray) : s.data.toList.length = s.size := Array.length_toList
theorem at_list (s : ByteArray) {k : Nat} (h : k < s.size) : s.data.toList[k]'(by rw [size_len]; exact h) = s[k]'h := rfl
/-- What k digits can spell. -/
def Bd (k : Nat) (z : Int) : Prop := 0 ≤ z ∧ (k = 0 → z = 0) ∧ (k = 1 → z ≤ 9) ∧ (k = 2 → z ≤ 99) ∧ (k = 3 → z ≤ 999) ∧ (k = 4 → z ≤ 9999) ∧ z ≤ 99999
theorem Bd.low {k : Nat} {z : Int} (h : Bd k z) (hk : k < 5) : 0 ≤ z ∧ z ≤ 9999 := by
  obtain ⟨a0, a1, a2, a3, a4, a5, a6⟩ := h
  have : k = 0 ∨ k = 1 ∨ k = 2 ∨ k = 3 ∨ k = 4 := by omega
  rcases this with rfl | rfl | rfl | rfl | rfl <;> simp_all <;> omega
theorem Bd.step {k : Nat} {z : Int} (h : Bd k z) (hk : k < 5) (c : Int) (c0 : 0 ≤ c) (c1 : c ≤ 9) : Bd (k + 1) (z * 10 + c) := by
  obtain ⟨a0, a1, a2, a3, a4, a5, a6⟩ := h
  have : k = 0 ∨ k = 1 ∨ k = 2 ∨ k = 3 ∨ k = 4 := by omega
  unfold Bd
  rcases this with rfl | rfl | rfl | rfl | rfl <;> simp_all <;> omega
set_option maxHeartbeats 1000000 in
theorem number (s : ByteArray) (w : World) (hmax : s.size ≤ 1000) :
    Calls Tryz.prog 30 #[.string s] w fun e w' => e = .returned (.int .i64 (numF s.data.toList)) ∧ w' = w := by
  have hsl := size_len s
  by_cases hn : (s.size : Int) = 0
  · have E : Hid (numF s.data.toList = -1) := by
      have : s.data.toList = [] := List.eq_nil_of_length_eq_zero (by rw [hsl]; omega)
      show numF s.data.toList = -1
      rw [this]; rfl
    clear hsl
    go_enter Tryz.func30, Tryz.ntmps30
    go_wp2
    go_ret
    exact ⟨by rw [E.out]; rfl, rfl⟩
  · have hpos : 0 < s.size := by omega
    have hp0 : ((s.size : Int) == 0) = false := beq_eq_false_iff_ne.2 hn
    by_cases h5 : (5 : Int) < (s.size : Int)
    · have E : Hid (numF s.data.toList = -1) := numF_long (by rw [hsl]; omega)
      clear hsl hn
      go_enter Tryz.func30, Tryz.ntmps30
      go_wp2
      go_ret
      exact ⟨by rw [E.out]; rfl, rfl⟩
    · have h5' : (s.size : Int) ≤ 5 := by omega
      by_cases h1 : (1 : Int) < (s.size : Int)
      · by_cases hz : (s[0]'hpos).toNat = 48
        · have E : Hid (numF s.data.toList = -1) := by
            show numF s.data.toList = -1
            have e0 : s.data.toList[0]? = some (s[0]'hpos) := by rw [List.getElem?_eq_getElem (by omega), at_list s hpos]
            revert e0 hsl
            generalize s.data.toList = l
            intro hsl e0
            rcases l with _ | ⟨b, r⟩
            · simp at hsl; omega
            · have e1 : b = s[0] := by simpa using e0
              have : b = 48 := by apply UInt8.toNat_inj.1; rw [e1, hz]; rfl
              subst this
              exact numF_zero (by simp at hsl; omega)
          have hz' : (((s[0]'hpos).toNat : Int) == 48) = true := by simp [hz]
          clear hz hn h5 hsl
          go_enter Tryz.func30, Tryz.ntmps30
          go_wp2
          go_ret
          exact ⟨by rw [E.out]; rfl, rfl⟩
        · have hz' : (((s[0]'hpos).toNat : Int) == 48) = false := by simp; omega
          have E : Hid (numF s.data.toList = (numGo 0 s.data.toList).getD (-1)) := by
            show numF s.data.toList = _
            have e0 : s.data.toList[0]? = some (s[0]'hpos) := by rw [List.getElem?_eq_getElem (by omega), at_list s hpos]
            revert e0 hsl
            generalize s.data.toList = l
            intro hsl e0
            rcases l with _ | ⟨b, r⟩
            · simp at hsl; omega
            · have e1 : b = s[0] := by simpa using e0
              exact numF_go (by simp at hsl; omega) (fun h => hz (by rw [← e1, h.2]; rfl))
          clear hz hn h5 hsl
          go_enter Tryz.func30, Tryz.ntmps30
          go_wp2
          go_loopw [3, 4] (fun n i wr => ∃ (k : Nat) (z : Int), k ≤ s.size ∧ n = .int .i64 z ∧ i = .int .i64 k ∧ Bd k z ∧ numGo 0 s.data.toList = numGo z (s.data.toList.drop k) ∧ wr = w) (fun _ i _ => s.size - (intOf i).toNat)
          case atStart => exact ⟨0, 0, Nat.zero_le _, rfl, rfl, by simp [Bd], rfl, rfl⟩
          case round =>
            obtain ⟨k, z, hk, rfl, rfl, hbd, hgo, rfl⟩ := hrel
            have HG : Hid (numGo 0 s.data.toList = numGo z (s.data.toList.drop k)) := hgo
            have HB : Hid (Bd k z) := hbd
            clear hgo hbd
            by_cases hks : k < s.size
            · have hlt : k < s.data.toList.length := by rw [size_len]; exact hks
              obtain ⟨z0, z1⟩ := HB.out.low (by omega)
              by_cases hc0 : ((s[k]'hks).toNat : Int) < 48
              · have HE : Hid (numF s.data.toList = -1) := by
                  show numF s.data.toList = -1
                  rw [E.out, HG.out, numGo_bad hlt z (.inl (by rw [at_list s hks]; omega))]; rfl
                clear hlt
                go_wp2
                go_ret
                exact ⟨by rw [HE.out]; rfl, rfl⟩
              · by_cases hc1 : (57 : Int) < ((s[k]'hks).toNat : Int)
                · have HE : Hid (numF s.data.toList = -1) := by
                    show numF s.data.toList = -1
                    rw [E.out, HG.out, numGo_bad hlt z (.inr (by rw [at_list s hks]; omega))]; rfl
                  clear hlt
                  go_wp2
                  go_ret
                  exact ⟨by rw [HE.out]; rfl, rfl⟩
                · have hc0' : (48 : Int) ≤ ((s[k]'hks).toNat : Int) := by omega
                  have hc1' : ((s[k]'hks).toNat : Int) ≤ 57 := by omega
                  have HE : Hid (numGo 0 s.data.toList = numGo (z * 10 + (((s[k]'hks).toNat : Int) - 48)) (s.data.toList.drop (k + 1))) := by
                    show numGo 0 s.data.toList = _
                    rw [HG.out, numGo_step hlt z (by rw [at_list s hks]; omega) (by rw [at_list s hks]; omega), at_list s hks]
                    congr 2
                    omega
                  have HB' : Hid (Bd (k + 1) (z * 10 + (((s[k]'hks).toNat : Int) - 48))) := HB.out.step (by omega) _ (by omega) (by omega)
                  clear hlt HG HB hc0 hc1
                  go_wp2
                  go_roundw
                  case rel => exact ⟨k + 1, _, by omega, rfl, by go_num, HB'.out, HE.out, trivial⟩
                  case measure => simp [intOf]; omega
            · have hks' : k = s.size := by omega
              have HE : Hid (numF s.data.toList = z) := by
                show numF s.data.toList = z
                rw [E.out, HG.out, List.drop_eq_nil_of_le (by rw [size_len]; omega)]; rfl
              clear hks' HG
              go_wp2
              go_ret
              exact ⟨by rw [HE.out]; rfl, rfl⟩
      · have E : Hid (numF s.data.toList = (numGo 0 s.data.toList).getD (-1)) := by
          show numF s.data.toList = _
          revert hsl
          generalize s.data.toList = l
          intro hsl
          rcases l with _ | ⟨b, r⟩
          · simp at hsl; omega
          · exact numF_go (by simp at hsl; omega) (fun h => by have := h.1; simp at hsl; omega)
        clear hn h5 hsl
        go_enter Tryz.func30, Tryz.ntmps30
        go_wp2
        go_loopw [3, 4] (fun n i wr => ∃ (k : Nat) (z : Int), k ≤ s.size ∧ n = .int .i64 z ∧ i = .int .i64 k ∧ Bd k z ∧ numGo 0 s.data.toList = numGo z (s.data.toList.drop k) ∧ wr = w) (fun _ i _ => s.size - (intOf i).toNat)
        case atStart => exact ⟨0, 0, Nat.zero_le _, rfl, rfl, by simp [Bd], rfl, rfl⟩
        case round =>
          obtain ⟨k, z, hk, rfl, rfl, hbd, hgo, rfl⟩ := hrel
          have HG : Hid (numGo 0 s.data.toList = numGo z (s.data.toList.drop k)) := hgo
          have HB : Hid (Bd k z) := hbd
          clear hgo hbd
          by_cases hks : k < s.size
          · have hlt : k < s.data.toList.length := by rw [size_len]; exact hks
            obtain ⟨z0, z1⟩ := HB.out.low (by omega)
            by_cases hc0 : ((s[k]'hks).toNat : Int) < 48
            · have HE : Hid (numF s.data.toList = -1) := by
                show numF s.data.toList = -1
                rw [E.out, HG.out, numGo_bad hlt z (.inl (by rw [at_list s hks]; omega))]; rfl
              clear hlt
              go_wp2
              go_ret
              exact ⟨by rw [HE.out]; rfl, rfl⟩
            · by_cases hc1 : (57 : Int) < ((s[k]'hks).toNat : Int)
              · have HE : Hid (numF s.data.toList = -1) := by
                  show numF s.data.toList = -1
                  rw [E.out, HG.out, numGo_bad hlt z (.inr (by rw [at_list s hks]; omega))]; rfl
                clear hlt
                go_wp2
                go_ret
                exact ⟨by rw [HE.out]; rfl, rfl⟩
              · have hc0' : (48 : Int) ≤ ((s[k]'hks).toNat : Int) := by omega
                have hc1' : ((s[k]'hks).toNat : Int) ≤ 57 := by omega
                have HE : Hid (numGo 0 s.data.toList = numGo (z * 10 + (((s[k]'hks).toNat : Int) - 48)) (s.data.toList.drop (k + 1))) := by
                  show numGo 0 s.data.toList = _
                  rw [HG.out, numGo_step hlt z (by rw [at_list s hks]; omega) (by rw [at_list s hks]; omega), at_list s hks]
                  congr 2
                  omega
                have HB' : Hid (Bd (k + 1) (z * 10 + (((s[k]'hks).toNat : Int) - 48))) := HB.out.step (by omega) _ (by omega) (by omega)
                clear hlt HG HB hc0 hc1
                go_wp2
                go_roundw
                case rel => exact ⟨k + 1, _, by omega, rfl, by go_num, HB'.out, HE.out, trivial⟩
                case measure => simp [intOf]; omega
          · have hks' : k = s.size := by omega
            have HE : Hid (numF s.data.toList = z) := by
              show numF s.data.toList = z
              rw [E.out, HG.out, List.drop_eq_nil_of_le (by rw [size_len]; omega)]; rfl
            clear hks' HG
            go_wp2
            go_ret
            exact ⟨by rw [HE.out]; rfl, rfl⟩
end Go.Proofs.YtalmnogdplhflaaGreatDoor
namespace Go.Proofs.YtalmnogdplhflaaGreatDoor
open Go.RowKit
set_option linter.unusedVariables false
set_option maxRecDepth 20000
theorem Tryz.info9 : (Tryz.prog.info? 9).map (fun i => (i.zero, i.size, i.bytes)) = some (some (.string ⟨#[]⟩), 1, 16) := by kernel_rfl
def strs (ws : List (List UInt8)) : List Value := ws.map fun l => .string ⟨l.toArray⟩
theorem strs_snoc (A : List (List UInt8)) (cur : List UInt8) : strs (A ++ [cur]) = strs A ++ [.string ⟨cur.toArray⟩] := by simp [strs]
theorem go_blank {l : List UInt8} {k : Nat} (hk : k < l.length) (cur : List UInt8) (h : l[k] = 32) : wordsGo cur (l.drop k) = cur :: wordsGo [] (l.drop (k + 1)) := by
  rw [List.drop_eq_getElem_cons hk]
  conv => lhs; unfold wordsGo
  rw [if_pos h]
theorem go_else {l : List UInt8} {k : Nat} (hk : k < l.length) (cur : List UInt8) (h : ¬ l[k] = 32) : wordsGo cur (l.drop k) = wordsGo (cur ++ [l[k]]) (l.drop (k + 1)) := by
  rw [List.drop_eq_getElem_cons hk]
  conv => lhs; unfold wordsGo
  rw [if_neg h]
set_option maxHeartbeats 1000000 in
theorem words_spec (s : ByteArray) (hs : (s.size : Int) ≤ 100) (w : World) :
    Calls Tryz.prog 14 #[.string s] w fun e w' => ∃ v, e = .returned v ∧ w'.ownsRow w.heap.size 9 1 v (words s.data.toList).length (strs (words s.data.toList)) ∧ Below w.heap.size w w' := by
  obtain ⟨i0, hi, hz0, hz1, hz2⟩ := info_parts Tryz.info9
  go_enter Tryz.func14, Tryz.ntmps14
  go_wp2
  go_loopw [3, 4, 5] (fun out word i wr => ∃ (k : Nat) (A : List (List UInt8)) (cur : List UInt8), k ≤ s.size ∧ i = .int .i64 k ∧ word = .string ⟨cur.toArray⟩ ∧ A.length ≤ k ∧ cur.length ≤ k ∧ words s.data.toList = A ++ wordsGo cur (s.data.toList.drop k) ∧ wr.ownsRow w.heap.size 9 1 out A.length (strs A) ∧ Below w.heap.size w wr)
    (fun _ _ i _ => s.size - (intOf i).toNat)
  case atStart => exact ⟨0, [], [], Nat.zero_le _, rfl, rfl, Nat.le_refl _, Nat.le_refl _, by simp [words_go], World.ownsRow_made w #[] 0 (Nat.le_refl _) (by simp) (by simp), (Below.refl _ _).alloc (by simp) _⟩
  case round =>
    obtain ⟨k, A, cur, hk, rfl, rfl, hA, hcur, hgo, hown, hbel⟩ := hrel
    have HG : Hid (words s.data.toList = A ++ wordsGo cur (s.data.toList.drop k)) := hgo
    clear hgo
    by_cases hks : k < s.size
    · have hlt : k < s.data.toList.length := by rw [size_len]; exact hks
      by_cases hb : (s[k]'hks).toNat = 32
      · have hb' : (((s[k]'hks).toNat : Int) == 32) = true := by simp [hb]
        have HE : Hid (words s.data.toList = (A ++ [cur]) ++ wordsGo [] (s.data.toList.drop (k + 1))) := by
          show words s.data.toList = _
          rw [HG.out, go_blank hlt cur (by rw [at_list s hks]; exact UInt8.toNat_inj.1 hb)]; simp
        clear hlt hb HG
        go_wp2_with (at_builtin; refine wpList_append_own _ rfl _ _ 39 rfl w.heap.size 9 i0 (.string ⟨#[]⟩) 1 16 Tryz.underlying39 hi hz0 hz1 hz2 rfl (by decide) _ _ _ rfl (hown.alloc _) ⟨wr.heap.size, 0, none⟩ 1 1 [.string ⟨cur.toArray⟩] rfl rfl ?c1 ?c2 ?c3 ?c4 ?c5 ?_)
        case c1 =>
          intro j u hj
          match j, hj with
          | 0, hj => simp at hj; subst hj; simp [Addr.add]
        case c2 => intro u hu; simp at hu; subst hu; rfl
        case c3 => unfold maxLen; omega
        case c4 => omega
        case c5 => have := hbel.size; simp; omega
        · intro v' w1 hown' hgrow _
          have hbel1 : Below w.heap.size w w1 := (hbel.alloc hbel.size _).grown hgrow (by have := hbel.size; simp; omega) (fun kk e => (hown.lt kk e).1)
          clear hgrow hown hbel
          go_wp2
          go_roundw
          case rel => exact ⟨k + 1, A ++ [cur], [], by omega, by go_num, rfl, by simp; omega, by simp, HE.out, by rw [List.length_append, strs_snoc]; exact hown', hbel1⟩
          case measure => simp [intOf]; omega
      · have hb' : (((s[k]'hks).toNat : Int) == 32) = false := by simp; omega
        have HE : Hid (words s.data.toList = A ++ wordsGo (cur ++ [s[k]'hks]) (s.data.toList.drop (k + 1))) := by
          show words s.data.toList = _
          rw [HG.out, go_else hlt cur (by rw [at_list s hks]; intro e; apply hb; rw [e]; rfl), at_list s hks]
        clear hlt hb HG
        have cv := conv1 wr ((s[k]'hks).toNat : Int)
        have ll : (cur.length : Int) ≤ 8388607 := by omega
        go_wp2
        go_roundw
        case rel => exact ⟨k + 1, A, cur ++ [s[k]'hks], by omega, by go_num, congrArg Value.string (ByteArray.mk_append_mk cur [s[k]'hks]), by omega, by simp; omega, HE.out, hown.alloc _, hbel.alloc hbel.size _⟩
        case measure => simp [intOf]; omega
    · have hks' : k = s.size := by omega
      have HE : Hid (words s.data.toList = A ++ [cur]) := by
        show words s.data.toList = _
        rw [HG.out, List.drop_eq_nil_of_le (by rw [size_len]; omega)]; rfl
      clear hks' HG
      go_wp2_with (at_builtin; refine wpList_append_own _ rfl _ _ 39 rfl w.heap.size 9 i0 (.string ⟨#[]⟩) 1 16 Tryz.underlying39 hi hz0 hz1 hz2 rfl (by decide) _ _ _ rfl (hown.alloc _) ⟨wr.heap.size, 0, none⟩ 1 1 [.string ⟨cur.toArray⟩] rfl rfl ?d1 ?d2 ?d3 ?d4 ?d5 ?_)
      case d1 =>
        intro j u hj
        match j, hj with
        | 0, hj => simp at hj; subst hj; simp [Addr.add]
      case d2 => intro u hu; simp at hu; subst hu; rfl
      case d3 => unfold maxLen; omega
      case d4 => omega
      case d5 => have := hbel.size; simp; omega
      · intro v' w1 hown' hgrow _
        have hbel1 : Below w.heap.size w w1 := (hbel.alloc hbel.size _).grown hgrow (by have := hbel.size; simp; omega) (fun kk e => (hown.lt kk e).1)
        clear hgrow hown hbel
        go_wp2
        go_ret
        exact ⟨v', rfl, by rw [HE.out, List.length_append, strs_snoc]; exact hown', hbel1⟩
theorem words_long (s : ByteArray) (hs : (100 : Int) < (s.size : Int)) (w : World) :
    Calls Tryz.prog 14 #[.string s] w fun e w' => e = .returned (.slice (some ⟨w.heap.size, 0, none⟩) 0 0) ∧ Below w.heap.size w w' := by
  go_enter Tryz.func14, Tryz.ntmps14
  go_wp2
  go_ret
  exact ⟨rfl, (Below.refl _ _).alloc (by simp) _⟩
/-- What the k-th of some words is to the model: its number, or -1. -/
def atF (ws : List (List UInt8)) (k : Nat) : Int := match ws[k]? with
  | some l => numF l
  | none => -1
theorem at_none (v : Option Addr) (n cap k : Nat) (h : (n : Int) ≤ (k : Int)) (hk : k ≤ 100) (w : World) :
    Calls Tryz.prog 15 #[.slice v n cap, .int .i64 k] w fun e w' => e = .returned (.int .i64 (-1)) ∧ w' = w := by
  go_enter Tryz.func15, Tryz.ntmps15
  go_wp2
  go_ret
  exact ⟨rfl, rfl⟩
theorem at_some (g n cap k : Nat) (h : (k : Int) < (n : Int)) (hn : n ≤ 1000) (l : List UInt8) (hl : l.length ≤ 1000) (w : World) (hc : w.cell? ⟨g, k, none⟩ = some (.string ⟨l.toArray⟩)) :
    Calls Tryz.prog 15 #[.slice (some ⟨g, 0, none⟩) n cap, .int .i64 k] w fun e w' => e = .returned (.int .i64 (numF l)) ∧ w' = w := by
  go_enter Tryz.func15, Tryz.ntmps15
  go_wp2_with fail
  refine (number ⟨l.toArray⟩ _ (by simpa [ByteArray.size] using hl)).mono ?_
  rintro e w' ⟨rfl, rfl⟩
  go_wp2
  go_ret
  exact ⟨rfl, rfl⟩
theorem word_len : ∀ (l : List UInt8) (x : List UInt8), x ∈ words l → x.length ≤ l.length
  | [], x, h => by simp [words] at h; subst h; simp
  | b :: r, x, h => by
    obtain ⟨w', ws', e⟩ := words_cons r
    have ih := word_len r
    unfold words at h
    split at h
    · rcases List.mem_cons.1 h with rfl | h
      · simp
      · have := ih x h; simp; omega
    · rw [e] at h ih
      rcases List.mem_cons.1 h with rfl | h
      · have := ih w' (by simp); simp; omega
      · have := ih x (by simp [h]); simp; omega
theorem wlen : ∀ l : List UInt8, (words l).length ≤ l.length + 1
  | [] => by simp [words]
  | b :: r => by
    obtain ⟨w', ws', e⟩ := words_cons r
    have ih := wlen r
    unfold words
    rw [e] at ih ⊢
    split <;> simp at ih ⊢ <;> omega
/-- The model's look at the k-th word, whatever the words. -/
theorem at_any (s : ByteArray) (hs : (s.size : Int) ≤ 100) (base k : Nat) (hk : k ≤ 100) (v : Value) (w : World) (ho : w.ownsRow base 9 1 v (words s.data.toList).length (strs (words s.data.toList))) :
    Calls Tryz.prog 15 #[v, .int .i64 k] w fun e w' => e = .returned (.int .i64 (atF (words s.data.toList) k)) ∧ w' = w := by
  have hlen : (words s.data.toList).length ≤ s.size + 1 := by
    have := wlen s.data.toList
    rw [size_len] at this; exact this
  by_cases hlt : k < (words s.data.toList).length
  · obtain ⟨l, hl⟩ : ∃ l, (words s.data.toList)[k]? = some l := ⟨_, List.getElem?_eq_getElem hlt⟩
    have hll : l.length ≤ 1000 := by
      have := word_len s.data.toList l (List.mem_of_getElem? hl)
      rw [size_len] at this; omega
    have e : atF (words s.data.toList) k = numF l := by unfold atF; rw [hl]
    rw [e]
    rcases ho.2 with ⟨_, h0⟩ | ⟨g, cap, cur, rfl, _⟩
    · omega
    · have hc := ho.cells (g := g) rfl k (.string ⟨l.toArray⟩) (by simp [strs, hl])
      rw [show (⟨g, 0, none⟩ : Addr).add k = ⟨g, k, none⟩ by unfold Addr.add; split <;> simp_all] at hc
      exact at_some g _ cap k (by omega) (by omega) l hll w hc
  · have e : atF (words s.data.toList) k = -1 := by unfold atF; rw [List.getElem?_eq_none (by omega)]
    rw [e]
    rcases ho.2 with ⟨rfl, h0⟩ | ⟨g, cap, cur, rfl, _⟩
    · exact at_none none 0 0 k (by omega) hk w
    · exact at_none _ _ cap k (by omega) hk w
end Go.Proofs.YtalmnogdplhflaaGreatDoor
namespace Go.Proofs.YtalmnogdplhflaaGreatDoor
open Go.RowKit
set_option linter.unusedVariables false
set_option maxRecDepth 20000
def uF (s : ByteArray) (k : Nat) : Int := if s.size ≤ 100 then atF (words s.data.toList) k else -1
theorem text_inj {x y : ByteArray} (h : x.toList = y.toList) : x = y := by
  rw [ByteArray.toList_eq, ByteArray.toList_eq] at h
  exact Go.WideShapes.bytes_inj h
end Go.Proofs.YtalmnogdplhflaaGreatDoor
namespace Go.Proofs.YtalmnogdplhflaaGreatDoor
open Go.RowKit
set_option linter.unusedVariables false
set_option maxRecDepth 20000
theorem pieces (s : ByteArray) : (Lib.splitB ⟨#[32]⟩ 0 (Lib.countB s ⟨#[32]⟩) s).map (fun x => x.data.toList) = words s.data.toList := by
  rw [Lib.splitB_data, ← split_words]
  have : Lib.countB s ⟨#[32]⟩ = s.data.toList.count 32 := by rw [← Lib.count_one]
  rw [this]
theorem pieces_len (s : ByteArray) : (Lib.splitB ⟨#[32]⟩ 0 (Lib.countB s ⟨#[32]⟩) s).length = (words s.data.toList).length := by
  rw [← pieces s, List.length_map]
theorem wcount : ∀ l : List UInt8, (words l).length = l.count 32 + 1
  | [] => rfl
  | b :: r => by
    have ih := wcount r
    obtain ⟨w', ws', e⟩ := words_cons r
    unfold words
    by_cases hb : b = 32
    · subst hb; simp [ih]
    · rw [if_neg hb, e, List.count_cons]
      rw [e] at ih
      simp [hb] at ih ⊢
      exact ih
end Go.Proofs.YtalmnogdplhflaaGreatDoor
namespace Go.Proofs.YtalmnogdplhflaaGreatDoor
open Go.RowKit
set_option linter.unusedVariables false
theorem run_mapUpdate_new {P : Program} (w : World) (mty kt et : TypeId) (r clock : Nat) (es : Array MapEntry) (s : ByteArray) (val : Value) (hm : P.underlying mty = some (.map kt et)) (hk : P.underlying kt = some .string) (hb : w.heap[r]? = some (.map es clock))
    (hf : Instr.findNow .string (.string s) es.toList 0 = some none) :
    (Instr.mapUpdate mty (.map (some r)) (.string s) val).run P w = .ok () { w with heap := w.heap.setIfInBounds r (.map (es.push { key := .string s, val := val, born := clock }) (clock + 1)) } := by
  have hc : (Instr.checkKey false 10000 kt (.string s)).run P w = .ok () w := MapKept.run_checkKey (k := .string s) hk (by simp [MapKept.IsKey]) false 9999
  simp [Instr.mapUpdate, run_underlying hm, MapKept.run_getObj_map hb, hc, MapKept.run_findKey hk hf, MapKept.run_setObj_map _ hb, Result.andThen]
theorem run_lookup_ok {P : Program} (w : World) (mty kt et : TypeId) (r clock : Nat) (es : Array MapEntry) (s : ByteArray) (i : Nat) (v : Value) (hm : P.underlying mty = some (.map kt et)) (hk : P.underlying kt = some .string) (hb : w.heap[r]? = some (.map es clock))
    (hf : Instr.findNow .string (.string s) es.toList 0 = some (some (i, v))) :
    (Instr.lookup mty (.map (some r)) (.string s) true).run P w = .ok (.tuple #[v, .bool true]) w := by
  have hc : (Instr.checkKey es.isEmpty 10000 kt (.string s)).run P w = .ok () w := MapKept.run_checkKey (k := .string s) hk (by simp [MapKept.IsKey]) _ 9999
  simp [Instr.lookup, run_underlying hm, MapKept.run_getObj_map hb, hc, MapKept.run_findKey hk hf, Result.andThen]
theorem run_lookup_no {P : Program} (w : World) (mty kt et : TypeId) (r clock : Nat) (es : Array MapEntry) (s : ByteArray) (z : Value) (hm : P.underlying mty = some (.map kt et)) (hk : P.underlying kt = some .string) (hb : w.heap[r]? = some (.map es clock))
    (hf : Instr.findNow .string (.string s) es.toList 0 = some none) (hz : (zeroValue et).run P w = .ok z w) :
    (Instr.lookup mty (.map (some r)) (.string s) true).run P w = .ok (.tuple #[z, .bool false]) w := by
  have hc : (Instr.checkKey es.isEmpty 10000 kt (.string s)).run P w = .ok () w := MapKept.run_checkKey (k := .string s) hk (by simp [MapKept.IsKey]) _ 9999
  simp [Instr.lookup, run_underlying hm, MapKept.run_getObj_map hb, hc, MapKept.run_findKey hk hf, Result.andThen, hz]
theorem upd (w : World) (es : Array MapEntry) (c : Nat) (s : ByteArray) (v : Value) (hf : Instr.findNow .string (.string s) es.toList 0 = some none) :
    (Instr.mapUpdate 63 (.map (some w.heap.size)) (.string s) v).run Tryz.prog (w.alloc (.map es c)) = .ok () (w.alloc (.map (es.push { key := .string s, val := v, born := c }) (c + 1))) := by
  have hb : (w.alloc (.map es c)).heap[w.heap.size]? = some (.map es c) := (MapKept.heap_alloc w _).1
  rw [run_mapUpdate_new _ 63 9 61 w.heap.size c es s v Tryz.underlying63 Tryz.underlying9 hb hf]
  have e : (w.alloc (.map es c)).heap.setIfInBounds w.heap.size (.map (es.push { key := .string s, val := v, born := c }) (c + 1)) = (w.alloc (.map (es.push { key := .string s, val := v, born := c }) (c + 1))).heap := by
    show (w.heap.push _).setIfInBounds w.heap.size _ = w.heap.push _
    apply Array.ext'
    simp
  rw [e]
  rfl
/-- The table of readers, as it lies in memory. -/
def TAB : Array MapEntry := #[⟨.string ⟨#[115, 116, 101, 112]⟩, .func (.func 47) #[] #[], 0⟩, ⟨.string ⟨#[103, 105, 118, 101]⟩, .func (.func 49) #[] #[], 1⟩, ⟨.string ⟨#[100, 114, 111, 112]⟩, .func (.func 50) #[] #[], 2⟩, ⟨.string ⟨#[112, 105, 99, 107]⟩, .func (.func 51) #[] #[], 3⟩, ⟨.string ⟨#[116, 104, 114, 111, 119]⟩, .func (.func 52) #[] #[], 4⟩, ⟨.string ⟨#[114, 101, 115, 116]⟩, .func (.func 53) #[] #[], 5⟩]
set_option maxRecDepth 20000 in
theorem readers (w : World) :
    Calls Tryz.prog 35 #[] w fun e w' => e = .returned (.map (some w.heap.size)) ∧ w' = w.alloc (.map TAB 6) := by
  have h0 := fun w : World => run_makeMap_plain (P := Tryz.prog) w 63
  have h1 : ∀ w : World, (Instr.mapUpdate 63 (.map (some w.heap.size)) (.string ⟨#[115, 116, 101, 112]⟩) (.func (.func 47) #[] #[])).run Tryz.prog (w.alloc (.map #[] 0)) = .ok () (w.alloc (.map #[⟨.string ⟨#[115, 116, 101, 112]⟩, .func (.func 47) #[] #[], 0⟩] 1)) := fun w => upd w _ _ _ _ (by kernel_rfl)
  have h2 : ∀ w : World, (Instr.mapUpdate 63 (.map (some w.heap.size)) (.string ⟨#[103, 105, 118, 101]⟩) (.func (.func 49) #[] #[])).run Tryz.prog (w.alloc (.map #[⟨.string ⟨#[115, 116, 101, 112]⟩, .func (.func 47) #[] #[], 0⟩] 1)) = .ok () (w.alloc (.map #[⟨.string ⟨#[115, 116, 101, 112]⟩, .func (.func 47) #[] #[], 0⟩, ⟨.string ⟨#[103, 105, 118, 101]⟩, .func (.func 49) #[] #[], 1⟩] 2)) := fun w => upd w _ _ _ _ (by kernel_rfl)
  have h3 : ∀ w : World, (Instr.mapUpdate 63 (.map (some w.heap.size)) (.string ⟨#[100, 114, 111, 112]⟩) (.func (.func 50) #[] #[])).run Tryz.prog (w.alloc (.map #[⟨.string ⟨#[115, 116, 101, 112]⟩, .func (.func 47) #[] #[], 0⟩, ⟨.string ⟨#[103, 105, 118, 101]⟩, .func (.func 49) #[] #[], 1⟩] 2)) = .ok () (w.alloc (.map #[⟨.string ⟨#[115, 116, 101, 112]⟩, .func (.func 47) #[] #[], 0⟩, ⟨.string ⟨#[103, 105, 118, 101]⟩, .func (.func 49) #[] #[], 1⟩, ⟨.string ⟨#[100, 114, 111, 112]⟩, .func (.func 50) #[] #[], 2⟩] 3)) := fun w => upd w _ _ _ _ (by kernel_rfl)
  have h4 : ∀ w : World, (Instr.mapUpdate 63 (.map (some w.heap.size)) (.string ⟨#[112, 105, 99, 107]⟩) (.func (.func 51) #[] #[])).run Tryz.prog (w.alloc (.map #[⟨.string ⟨#[115, 116, 101, 112]⟩, .func (.func 47) #[] #[], 0⟩, ⟨.string ⟨#[103, 105, 118, 101]⟩, .func (.func 49) #[] #[], 1⟩, ⟨.string ⟨#[100, 114, 111, 112]⟩, .func (.func 50) #[] #[], 2⟩] 3)) = .ok () (w.alloc (.map #[⟨.string ⟨#[115, 116, 101, 112]⟩, .func (.func 47) #[] #[], 0⟩, ⟨.string ⟨#[103, 105, 118, 101]⟩, .func (.func 49) #[] #[], 1⟩, ⟨.string ⟨#[100, 114, 111, 112]⟩, .func (.func 50) #[] #[], 2⟩, ⟨.string ⟨#[112, 105, 99, 107]⟩, .func (.func 51) #[] #[], 3⟩] 4)) := fun w => upd w _ _ _ _ (by kernel_rfl)
  have h5 : ∀ w : World, (Instr.mapUpdate 63 (.map (some w.heap.size)) (.string ⟨#[116, 104, 114, 111, 119]⟩) (.func (.func 52) #[] #[])).run Tryz.prog (w.alloc (.map #[⟨.string ⟨#[115, 116, 101, 112]⟩, .func (.func 47) #[] #[], 0⟩, ⟨.string ⟨#[103, 105, 118, 101]⟩, .func (.func 49) #[] #[], 1⟩, ⟨.string ⟨#[100, 114, 111, 112]⟩, .func (.func 50) #[] #[], 2⟩, ⟨.string ⟨#[112, 105, 99, 107]⟩, .func (.func 51) #[] #[], 3⟩] 4)) = .ok () (w.alloc (.map #[⟨.string ⟨#[115, 116, 101, 112]⟩, .func (.func 47) #[] #[], 0⟩, ⟨.string ⟨#[103, 105, 118, 101]⟩, .func (.func 49) #[] #[], 1⟩, ⟨.string ⟨#[100, 114, 111, 112]⟩, .func (.func 50) #[] #[], 2⟩, ⟨.string ⟨#[112, 105, 99, 107]⟩, .func (.func 51) #[] #[], 3⟩, ⟨.string ⟨#[116, 104, 114, 111, 119]⟩, .func (.func 52) #[] #[], 4⟩] 5)) := fun w => upd w _ _ _ _ (by kernel_rfl)
  have h6 : ∀ w : World, (Instr.mapUpdate 63 (.map (some w.heap.size)) (.string ⟨#[114, 101, 115, 116]⟩) (.func (.func 53) #[] #[])).run Tryz.prog (w.alloc (.map #[⟨.string ⟨#[115, 116, 101, 112]⟩, .func (.func 47) #[] #[], 0⟩, ⟨.string ⟨#[103, 105, 118, 101]⟩, .func (.func 49) #[] #[], 1⟩, ⟨.string ⟨#[100, 114, 111, 112]⟩, .func (.func 50) #[] #[], 2⟩, ⟨.string ⟨#[112, 105, 99, 107]⟩, .func (.func 51) #[] #[], 3⟩, ⟨.string ⟨#[116, 104, 114, 111, 119]⟩, .func (.func 52) #[] #[], 4⟩] 5)) = .ok () (w.alloc (.map #[⟨.string ⟨#[115, 116, 101, 112]⟩, .func (.func 47) #[] #[], 0⟩, ⟨.string ⟨#[103, 105, 118, 101]⟩, .func (.func 49) #[] #[], 1⟩, ⟨.string ⟨#[100, 114, 111, 112]⟩, .func (.func 50) #[] #[], 2⟩, ⟨.string ⟨#[112, 105, 99, 107]⟩, .func (.func 51) #[] #[], 3⟩, ⟨.string ⟨#[116, 104, 114, 111, 119]⟩, .func (.func 52) #[] #[], 4⟩, ⟨.string ⟨#[114, 101, 115, 116]⟩, .func (.func 53) #[] #[], 5⟩] 6)) := fun w => upd w _ _ _ _ (by kernel_rfl)
  go_enter Tryz.func35, Tryz.ntmps35
  go_wp2
  go_ret
  exact ⟨rfl, rfl⟩
theorem beq_ba (x y : ByteArray) : (x == y) = decide (x = y) := by
  cases x with | mk a =>
  cases y with | mk b =>
  show (a == b) = _
  by_cases h : a = b
  · simp [h]
  · simp [h]
theorem find_step (x y : ByteArray) (v : Value) (b i : Nat) (es : List MapEntry) : Instr.findNow .string (.string x) (⟨.string y, v, b⟩ :: es) i = if x = y then some (some (i, v)) else Instr.findNow .string (.string x) es (i + 1) := by
  have e : Instr.findNow .string (.string x) (⟨.string y, v, b⟩ :: es) i = (match (some (x == y) : Option Bool) with | some true => some (some (i, v)) | some false => Instr.findNow .string (.string x) es (i + 1) | none => none) := rfl
  rw [e, beq_ba]
  by_cases h : x = y
  · rw [decide_eq_true h, if_pos h]
  · rw [decide_eq_false h, if_neg h]
/-- Which reader a word names. -/
def readerOf (x : ByteArray) : Option Nat :=
  if x = (⟨#[115, 116, 101, 112]⟩ : ByteArray) then some 47 else if x = (⟨#[103, 105, 118, 101]⟩ : ByteArray) then some 49 else if x = (⟨#[100, 114, 111, 112]⟩ : ByteArray) then some 50 else if x = (⟨#[112, 105, 99, 107]⟩ : ByteArray) then some 51 else if x = (⟨#[116, 104, 114, 111, 119]⟩ : ByteArray) then some 52 else if x = (⟨#[114, 101, 115, 116]⟩ : ByteArray) then some 53 else none
theorem look_yes (w : World) (b : Nat) (hb : w.heap[b]? = some (.map TAB 6)) (x : ByteArray) (f : Nat) (h : readerOf x = some f) :
    (Instr.lookup 63 (.map (some b)) (.string x) true).run Tryz.prog w = .ok (.tuple #[.func (.func f) #[] #[], .bool true]) w := by
  have hf : ∃ i, Instr.findNow .string (.string x) TAB.toList 0 = some (some (i, .func (.func f) #[] #[])) := by
    show ∃ i, Instr.findNow .string (.string x) [⟨.string ⟨#[115, 116, 101, 112]⟩, .func (.func 47) #[] #[], 0⟩, ⟨.string ⟨#[103, 105, 118, 101]⟩, .func (.func 49) #[] #[], 1⟩, ⟨.string ⟨#[100, 114, 111, 112]⟩, .func (.func 50) #[] #[], 2⟩, ⟨.string ⟨#[112, 105, 99, 107]⟩, .func (.func 51) #[] #[], 3⟩, ⟨.string ⟨#[116, 104, 114, 111, 119]⟩, .func (.func 52) #[] #[], 4⟩, ⟨.string ⟨#[114, 101, 115, 116]⟩, .func (.func 53) #[] #[], 5⟩] 0 = _
    rw [find_step, find_step, find_step, find_step, find_step, find_step]
    unfold readerOf at h
    repeat' split at h
    all_goals first
      | (simp only [Option.some.injEq] at h; subst h; simp [*]; done)
      | (simp at h; done)
  obtain ⟨i, hf⟩ := hf
  exact run_lookup_ok w 63 9 61 b 6 TAB x i _ Tryz.underlying63 Tryz.underlying9 hb hf
theorem look_no (w : World) (b : Nat) (hb : w.heap[b]? = some (.map TAB 6)) (x : ByteArray) (h : readerOf x = none) :
    (Instr.lookup 63 (.map (some b)) (.string x) true).run Tryz.prog w = .ok (.tuple #[.nilFunc, .bool false]) w := by
  have hf : Instr.findNow .string (.string x) TAB.toList 0 = some none := by
    show Instr.findNow .string (.string x) [⟨.string ⟨#[115, 116, 101, 112]⟩, .func (.func 47) #[] #[], 0⟩, ⟨.string ⟨#[103, 105, 118, 101]⟩, .func (.func 49) #[] #[], 1⟩, ⟨.string ⟨#[100, 114, 111, 112]⟩, .func (.func 50) #[] #[], 2⟩, ⟨.string ⟨#[112, 105, 99, 107]⟩, .func (.func 51) #[] #[], 3⟩, ⟨.string ⟨#[116, 104, 114, 111, 119]⟩, .func (.func 52) #[] #[], 4⟩, ⟨.string ⟨#[114, 101, 115, 116]⟩, .func (.func 53) #[] #[], 5⟩] 0 = _
    rw [find_step, find_step, find_step, find_step, find_step, find_step]
    unfold readerOf at h
    repeat' split at h
    all_goals first
      | (simp at h; done)
      | (simp [*]; rfl)
  exact run_lookup_no w 63 9 61 b 6 TAB x _ Tryz.underlying63 Tryz.underlying9 hb hf (by kernel_rfl)
end Go.Proofs.YtalmnogdplhflaaGreatDoor
namespace Go.Proofs.YtalmnogdplhflaaGreatDoor
open Go.RowKit
set_option linter.unusedVariables false
def sideF (x : ByteArray) : Int := if x = wordOf 0 then 0 else if x = wordOf 1 then 1 else -1
theorem list_eq {x y : ByteArray} : (x.toList == y.toList) = decide (x = y) := by
  by_cases h : x = y
  · simp [h]
  · have : ¬ x.toList = y.toList := fun e => h (text_inj e)
    simp [h, this]
theorem looseSide (x : ByteArray) (w : World) :
    Calls Tryz.prog 48 #[.string x] w fun e w' => e = .returned (.int .i64 (sideF x)) ∧ w' = w := by
  go_enter Tryz.func48, Tryz.ntmps48
  go_wp2_with (go_at_call 65; refine (word_impl _ _).mono ?_; rintro e w' ⟨rfl, rfl⟩)
  all_goals (go_ret; exact ⟨by simp_all [list_eq, sideF], rfl⟩)
/-- The deed that a reader makes of two words. -/
def deedR (f : Nat) (a b : ByteArray) : Value :=
  if f = 47 then .iface 79 (.agg #[.int .i64 (sideF a)]) else if f = 49 then .iface 81 (.agg #[.int .i64 (atoiV a.data.toList), .int .i64 (atoiV b.data.toList)]) else if f = 50 then .iface 83 (.agg #[.int .i64 (atoiV a.data.toList)]) else
  if f = 51 then .iface 84 (.agg #[.int .i64 (atoiV a.data.toList)]) else if f = 52 then .iface 86 (.agg #[.int .i64 (sideF a), .int .i64 (atoiV b.data.toList)]) else .iface 88 (.agg #[])
theorem read_step (a b : ByteArray) (w : World) : Calls Tryz.prog 47 #[.string a, .string b] w fun e w' => e = .returned (deedR 47 a b) ∧ Below w.heap.size w w' := by
  go_enter Tryz.func47, Tryz.ntmps47
  go_wp2_with (go_at_call 48; refine (looseSide _ _).mono ?_; rintro e w' ⟨rfl, rfl⟩)
  go_ret
  exact ⟨rfl, by repeat (first | exact Below.refl _ _ | refine Below.alloc ?_ (by simp <;> omega) _)⟩
theorem read_give (a b : ByteArray) (ha : a.size ≤ 1000) (hb : b.size ≤ 1000) (w : World) (hE : Env w) : Calls Tryz.prog 49 #[.string a, .string b] w fun e w' => e = .returned (deedR 49 a b) ∧ Below w.heap.size w w' := by
  have HE : Hid (Env w) := hE
  clear hE
  go_enter Tryz.func49, Tryz.ntmps49
  go_wp2_with fail
  refine (loose a ha _ HE.out).mono ?_
  rintro e w1 ⟨rfl, hb1⟩
  go_wp2_with fail
  refine (loose b hb _ (HE.out.on hb1)).mono ?_
  rintro e w2 ⟨rfl, hb2⟩
  go_wp2
  go_ret
  exact ⟨rfl, bthen hb1 hb2⟩
theorem read_drop (a b : ByteArray) (ha : a.size ≤ 1000) (w : World) (hE : Env w) : Calls Tryz.prog 50 #[.string a, .string b] w fun e w' => e = .returned (deedR 50 a b) ∧ Below w.heap.size w w' := by
  have HE : Hid (Env w) := hE
  clear hE
  go_enter Tryz.func50, Tryz.ntmps50
  go_wp2_with fail
  refine (loose a ha _ HE.out).mono ?_
  rintro e w1 ⟨rfl, hb1⟩
  go_wp2
  go_ret
  exact ⟨rfl, hb1⟩
theorem read_pick (a b : ByteArray) (ha : a.size ≤ 1000) (w : World) (hE : Env w) : Calls Tryz.prog 51 #[.string a, .string b] w fun e w' => e = .returned (deedR 51 a b) ∧ Below w.heap.size w w' := by
  have HE : Hid (Env w) := hE
  clear hE
  go_enter Tryz.func51, Tryz.ntmps51
  go_wp2_with fail
  refine (loose a ha _ HE.out).mono ?_
  rintro e w1 ⟨rfl, hb1⟩
  go_wp2
  go_ret
  exact ⟨rfl, hb1⟩
theorem read_throw (a b : ByteArray) (hb : b.size ≤ 1000) (w : World) (hE : Env w) : Calls Tryz.prog 52 #[.string a, .string b] w fun e w' => e = .returned (deedR 52 a b) ∧ Below w.heap.size w w' := by
  have HE : Hid (Env w) := hE
  clear hE
  go_enter Tryz.func52, Tryz.ntmps52
  go_wp2_with (go_at_call 48; refine (looseSide _ _).mono ?_; rintro e w' ⟨rfl, hw'⟩; subst hw')
  refine (loose b hb _ HE.out).mono ?_
  rintro e w1 ⟨rfl, hb1⟩
  go_wp2
  go_ret
  exact ⟨rfl, hb1⟩
theorem read_rest (a b : ByteArray) (w : World) : Calls Tryz.prog 53 #[.string a, .string b] w fun e w' => e = .returned (deedR 53 a b) ∧ Below w.heap.size w w' := by
  go_enter Tryz.func53, Tryz.ntmps53
  go_wp2
  go_ret
  exact ⟨rfl, by repeat (first | exact Below.refl _ _ | refine Below.alloc ?_ (by simp <;> omega) _)⟩
/-- Whichever reader a word names: what it makes of two words. -/
theorem read_any (x a b : ByteArray) (f : Nat) (h : readerOf x = some f) (ha : a.size ≤ 1000) (hb : b.size ≤ 1000) (w : World) (hE : Env w) : Calls Tryz.prog f #[.string a, .string b] w fun e w' => e = .returned (deedR f a b) ∧ Below w.heap.size w w' := by
  unfold readerOf at h
  repeat' split at h
  all_goals first
    | (simp only [Option.some.injEq] at h; subst h; first | exact read_step a b w | exact read_give a b ha hb w hE | exact read_drop a b ha w hE | exact read_pick a b ha w hE | exact read_throw a b hb w hE | exact read_rest a b w)
    | (simp at h; done)
theorem reader_call (x : ByteArray) (f : Nat) (h : readerOf x = some f) (a : Array Value) (w : World) : (callFunc f a).run Tryz.prog w = .ok (.enter f a) w := by
  unfold readerOf at h
  repeat' split at h
  all_goals first
    | (simp only [Option.some.injEq] at h; subst h; kernel_rfl)
    | (simp at h; done)
end Go.Proofs.YtalmnogdplhflaaGreatDoor
namespace Go.Proofs.YtalmnogdplhflaaGreatDoor
open Go.RowKit
set_option linter.unusedVariables false
theorem split_eq (s : ByteArray) (hs : s.size ≤ 100) (w : World) (hE : Env w) :
    Calls Tryz.prog 26 #[.string s, .string ⟨#[32]⟩] w fun e w' => ∃ ps : List ByteArray, ps.map (fun x => x.data.toList) = words s.data.toList ∧
      e = .returned (.slice (some ⟨w.heap.size, 0, none⟩) ps.length ps.length) ∧ w' = w.alloc (.cells (ps.map Value.string).toArray 9) := by
  obtain ⟨⟨m, hm⟩, _⟩ := hE w (Below.refl _ _)
  have hlen : Lib.countB s ⟨#[32]⟩ + 1 = (Lib.splitB ⟨#[32]⟩ 0 (Lib.countB s ⟨#[32]⟩) s).length := by
    have h1 := pieces_len s
    have h2 : (words s.data.toList).length = s.data.toList.count 32 + 1 := wcount s.data.toList
    have h3 : Lib.countB s ⟨#[32]⟩ = s.data.toList.count 32 := by rw [← Lib.count_one]
    omega
  refine (Tryz.strings_Split s ⟨#[32]⟩ m w (by omega) hm (by decide)).mono ?_
  rintro e w' ⟨rfl, rfl⟩
  exact ⟨_, pieces s, by rw [hlen], rfl⟩
def E5 : List Value := [.string ⟨#[]⟩, .string ⟨#[]⟩, .string ⟨#[]⟩, .string ⟨#[]⟩, .string ⟨#[]⟩]
theorem zeros9 (base g n : Nat) (xs : List Value) (hn : n ≤ 1000) (w : World) (ho : w.ownsRow base 9 1 (.slice (some ⟨g, 0, none⟩) n n) n xs) :
    ∃ G W1, (∀ ty, (Builtin.append_ #[39, 3] ty #[.slice (some ⟨g, 0, none⟩) n n, .int .i64 5]).run Tryz.prog w = .ok (.slice (some ⟨w.heap.size, 0, none⟩) (n + 5) G) W1) ∧
      (∀ k x, (xs ++ E5)[k]? = some x → W1.cell? ⟨w.heap.size, k, none⟩ = some x) ∧ Below w.heap.size w W1 ∧ W1.heap.size = w.heap.size + 1 := by
  obtain ⟨i5, hi5, hz50, hz51, hz52⟩ := info_parts Tryz.info9
  have hxl : xs.length = n := by rw [ho.1]; omega
  have hold : (Builtin.firstCells i5.size n (.slice (some ⟨g, 0, none⟩) n n)).run Tryz.prog w.drew = .ok xs.toArray w.drew := by
    rw [hz51]
    exact run_firstCells_some w.drew 1 n ⟨g, 0, none⟩ n n xs (by rw [hxl]; omega) (fun j v hj => ho.cells (g := g) rfl j v hj)
  have h := Lib.run_append_grow_zeros (P := Tryz.prog) w 39 3 0 9 i5 _ .i64 .i64 Tryz.underlying39 Tryz.underlying3 hi5 hz50 (some ⟨g, 0, none⟩) n n xs hold 5 (by omega) (by omega) (by omega) (by omega) (by rw [hz52]; omega) (by rw [hz52]; exact growslice_fits (by omega) (by omega))
  refine ⟨_, _, fun ty => h, ?_, (Below.refl _ _).drew.alloc (Nat.le_refl _) _, by simp⟩
  intro k x hx
  have hz : (Builtin.zeroCells (Value.string ⟨#[]⟩).cells 5).toList = E5 := by kernel_rfl
  have hlt : k < (xs ++ E5).length := (List.getElem?_eq_some_iff.1 hx).1
  simp only [World.cell?]
  have hh := heap_alloc_new w.drew (.cells (xs.toArray ++ Builtin.zeroCells (Value.string ⟨#[]⟩).cells 5 ++ Builtin.zeroCells (Value.string ⟨#[]⟩).cells (grownCap w (n + 5) n 9 - (n + 5))) 9)
  rw [show w.drew.heap.size = w.heap.size from rfl] at hh
  rw [hh]
  simp only [Option.isSome_none, Bool.false_eq_true, if_false]
  rw [← Array.getElem?_toList, Array.toList_append, Array.toList_append, hz]
  rw [List.getElem?_append_left (by simpa using hlt)]
  exact hx
/-- The k-th word, or the empty one. -/
def wordB (s : ByteArray) (k : Nat) : ByteArray := ⟨((words s.data.toList).getD k []).toArray⟩
theorem wordB_of {s x : ByteArray} {k : Nat} (h : x.data.toList = (words s.data.toList).getD k []) : wordB s k = x := by
  unfold wordB
  rw [← h]
theorem word_at {s : ByteArray} {ps : List ByteArray} (hps : ps.map (fun x => x.data.toList) = words s.data.toList) (hs : s.size ≤ 100) (k : Nat) (hk : k < 5) :
    ∃ x : ByteArray, (ps.map Value.string ++ E5)[k]? = some (.string x) ∧ x.data.toList = (words s.data.toList).getD k [] ∧ x.size ≤ 1000 := by
  by_cases h : k < ps.length
  · refine ⟨ps[k], ?_, ?_, ?_⟩
    · rw [List.getElem?_append_left (by simpa using h)]
      simp [h]
    · rw [← hps]
      simp [List.getD, h]
    · have hm : ps[k].data.toList ∈ words s.data.toList := by rw [← hps]; exact List.mem_map.2 ⟨_, List.getElem_mem h, rfl⟩
      have := word_len s.data.toList _ hm
      rw [size_len, size_len] at this
      omega
  · refine ⟨⟨#[]⟩, ?_, ?_, by decide +kernel⟩
    · rw [List.getElem?_append_right (by simpa using Nat.le_of_not_lt h)]
      have : k - (ps.map Value.string).length < 5 := by omega
      generalize k - (ps.map Value.string).length = j at *
      match j, this with
      | 0, _ => rfl
      | 1, _ => rfl
      | 2, _ => rfl
      | 3, _ => rfl
      | 4, _ => rfl
    · have hl : (words s.data.toList).length ≤ k := by rw [← hps, List.length_map]; omega
      rw [List.getD_eq_getElem?_getD, List.getElem?_eq_none hl]
      rfl
set_option maxRecDepth 20000 in
set_option maxHeartbeats 2000000 in
theorem oread_none (s : ByteArray) (h : (s.size : Int) ≤ 100) (hno : readerOf (wordB s 2) = none) (w : World) (hE : Env w) :
    Calls Tryz.prog 25 #[.string s] w fun e w' => e = .returned (.tuple #[.agg #[.int .i64 0, .int .i64 0, .int .i64 0, .int .i64 0, .int .i64 0], .bool false]) ∧ Below w.heap.size w w' := by
  obtain ⟨i0, hi, hz0, hz1, hz2⟩ := info_parts Tryz.info9
  have HE : Hid (Env (w.alloc (.cells #[.int .i64 0, .int .i64 0, .int .i64 0, .int .i64 0, .int .i64 0] 46))) := hE.on ((Below.refl _ _).alloc (by simp) _)
  clear hE
  go_enter Tryz.func25, Tryz.ntmps25
  go_wp2_with fail
  refine (split_eq s (by omega) _ HE.out).mono ?_
  rintro e w1 ⟨ps, hps, rfl, hw1⟩
  have hpl : ps.length ≤ 101 := by
    have h1 := congrArg List.length hps
    rw [List.length_map] at h1
    have h2 := wlen s.data.toList
    rw [size_len] at h2
    omega
  have e0 : ((w.alloc (.cells #[.int .i64 0, .int .i64 0, .int .i64 0, .int .i64 0, .int .i64 0] 46))).heap.size = w.heap.size + 1 := by simp
  have HO : Hid (w1.ownsRow (w.heap.size + 1) 9 1 (.slice (some ⟨w.heap.size + 1, 0, none⟩) ps.length ps.length) ps.length (ps.map Value.string)) := by
    have := World.ownsRow_lit (base := w.heap.size + 1) (e := 9) (size := 1) (w.alloc (.cells #[.int .i64 0, .int .i64 0, .int .i64 0, .int .i64 0, .int .i64 0] 46)) (ps.map Value.string).toArray ps.length (by simp) (by unfold maxLen; omega) (by simp)
    rw [e0] at this
    rw [hw1]
    exact this
  clear e0
  have B1 : Below ((w.alloc (.cells #[.int .i64 0, .int .i64 0, .int .i64 0, .int .i64 0, .int .i64 0] 46))).heap.size (w.alloc (.cells #[.int .i64 0, .int .i64 0, .int .i64 0, .int .i64 0, .int .i64 0] 46)) w1 := by rw [hw1]; exact (Below.refl _ _).alloc (Nat.le_refl _) _
  have HPS : Hid (ps.map (fun x => x.data.toList) = words s.data.toList) := hps
  clear hps hw1
  have hsz1 : w.heap.size + 1 ≤ w1.heap.size := by have := B1.size; simpa using this
  obtain ⟨G, W2, hz9, hcl, hbz, hsz2⟩ := zeros9 (w.heap.size + 1) (w.heap.size + 1) ps.length _ (by omega) w1 HO.out
  have B2 := bthen B1 hbz
  have HCL : Hid (∀ k x, (ps.map Value.string ++ E5)[k]? = some x → W2.cell? ⟨w1.heap.size, k, none⟩ = some x) := hcl
  clear hcl hbz HO
  go_wp2_with (at_builtin; refine Lib.wpList_append_run _ rfl _ _ _ _ rfl _ _ rfl rfl _ _ (hz9 _) ?_)
  obtain ⟨x0, y0, t0, z0⟩ := word_at HPS.out (by omega) 0 (by omega)
  obtain ⟨x1, y1, t1, z1⟩ := word_at HPS.out (by omega) 1 (by omega)
  obtain ⟨x2, y2, t2, z2⟩ := word_at HPS.out (by omega) 2 (by omega)
  obtain ⟨x3, y3, t3, z3⟩ := word_at HPS.out (by omega) 3 (by omega)
  obtain ⟨x4, y4, t4, z4⟩ := word_at HPS.out (by omega) 4 (by omega)
  have hx2w := wordB_of t2
  have d0 := HCL.out 0 _ y0
  have d1 := HCL.out 1 _ y1
  have d2 := HCL.out 2 _ y2
  have d3 := HCL.out 3 _ y3
  have d4 := HCL.out 4 _ y4
  clear y0 y1 y2 y3 y4 HCL hz9
  have hlt2 : w1.heap.size < W2.heap.size := by omega
  have hmb : ((W2.alloc (.map TAB 6)).drew).heap[w1.heap.size + 1]? = some (.map TAB 6) := by rw [← hsz2]; exact (MapKept.heap_alloc W2 _).1
  have HBm : Hid (Below w.heap.size w ((W2.alloc (.map TAB 6)).drew)) := ((bthen ((Below.refl _ _).alloc (by simp) _) B2).alloc (by omega) _).drew
  have BM : Below W2.heap.size W2 ((W2.alloc (.map TAB 6)).drew) := ((Below.refl _ _).alloc (Nat.le_refl _) _).drew
  obtain ⟨hcb, hfb⟩ := bcell (bthen B2 BM)
  have r0 : ((W2.alloc (.map TAB 6)).drew).cell? ⟨w.heap.size, 0, none⟩ = some (.int .i64 0) := (hcb _ 0 (by simp)).trans (by simp)
  have r1 : ((W2.alloc (.map TAB 6)).drew).cell? ⟨w.heap.size, 1, none⟩ = some (.int .i64 0) := (hcb _ 1 (by simp)).trans (by simp)
  have r2 : ((W2.alloc (.map TAB 6)).drew).cell? ⟨w.heap.size, 2, none⟩ = some (.int .i64 0) := (hcb _ 2 (by simp)).trans (by simp)
  have r3 : ((W2.alloc (.map TAB 6)).drew).cell? ⟨w.heap.size, 3, none⟩ = some (.int .i64 0) := (hcb _ 3 (by simp)).trans (by simp)
  have r4 : ((W2.alloc (.map TAB 6)).drew).cell? ⟨w.heap.size, 4, none⟩ = some (.int .i64 0) := (hcb _ 4 (by simp)).trans (by simp)
  have s0 : ((W2.alloc (.map TAB 6)).drew).frozen? ⟨w.heap.size, 0, none⟩ = false := (hfb _ 0 (by simp)).trans (by simp)
  have s1 : ((W2.alloc (.map TAB 6)).drew).frozen? ⟨w.heap.size, 1, none⟩ = false := (hfb _ 1 (by simp)).trans (by simp)
  have s2 : ((W2.alloc (.map TAB 6)).drew).frozen? ⟨w.heap.size, 2, none⟩ = false := (hfb _ 2 (by simp)).trans (by simp)
  have s3 : ((W2.alloc (.map TAB 6)).drew).frozen? ⟨w.heap.size, 3, none⟩ = false := (hfb _ 3 (by simp)).trans (by simp)
  have s4 : ((W2.alloc (.map TAB 6)).drew).frozen? ⟨w.heap.size, 4, none⟩ = false := (hfb _ 4 (by simp)).trans (by simp)
  have RR : Hid ((((W2.alloc (.map TAB 6)).drew).cell? ⟨w.heap.size, 0, none⟩ = some (.int .i64 0) ∧ ((W2.alloc (.map TAB 6)).drew).cell? ⟨w.heap.size, 1, none⟩ = some (.int .i64 0) ∧ ((W2.alloc (.map TAB 6)).drew).cell? ⟨w.heap.size, 2, none⟩ = some (.int .i64 0) ∧ ((W2.alloc (.map TAB 6)).drew).cell? ⟨w.heap.size, 3, none⟩ = some (.int .i64 0) ∧ ((W2.alloc (.map TAB 6)).drew).cell? ⟨w.heap.size, 4, none⟩ = some (.int .i64 0)) ∧ ((W2.alloc (.map TAB 6)).drew).frozen? ⟨w.heap.size, 0, none⟩ = false ∧ ((W2.alloc (.map TAB 6)).drew).frozen? ⟨w.heap.size, 1, none⟩ = false ∧ ((W2.alloc (.map TAB 6)).drew).frozen? ⟨w.heap.size, 2, none⟩ = false ∧ ((W2.alloc (.map TAB 6)).drew).frozen? ⟨w.heap.size, 3, none⟩ = false ∧ ((W2.alloc (.map TAB 6)).drew).frozen? ⟨w.heap.size, 4, none⟩ = false) := ⟨⟨r0, r1, r2, r3, r4⟩, s0, s1, s2, s3, s4⟩
  clear r0 r1 r2 r3 r4 s0 s1 s2 s3 s4 hcb hfb
  have hr : readerOf x2 = none := by rw [← hx2w]; exact hno
  clear hno
  · skip
    have hlk : (Instr.lookup 63 (.map (some (w1.heap.size + 1))) (.string x2) true).run Tryz.prog ((W2.alloc (.map TAB 6)).drew) = .ok (.tuple #[.nilFunc, .bool false]) ((W2.alloc (.map TAB 6)).drew) := look_no _ _ hmb x2 hr
    clear hmb BM B1 B2
    go_region_with (go_at_call 35; refine (readers _).mono ?_; rintro e w3 ⟨rfl, rfl⟩)
    all_goals
      simp only [Act.put, List.setIfInBounds_toArray, List.set_cons_zero, List.set_cons_succ, List.getElem_toArray, List.getElem_cons_zero, List.getElem_cons_succ]
      obtain ⟨⟨r0, r1, r2, r3, r4⟩, s0, s1, s2, s3, s4⟩ := RR.out
      clear RR hlk
      generalize (W2.alloc (.map TAB 6)).drew = W3 at *
      go_wp2
      exact bodyPost_ret (v := .tuple #[.agg #[.int .i64 0, .int .i64 0, .int .i64 0, .int .i64 0, .int .i64 0], .bool false]) (by simp [results, Tryz.results25, go_sem, r0, r1, r2, r3, r4]) rfl ⟨rfl, by (iterate 5 (refine Below.setCell ?_ (by simp) _)); exact HBm.out⟩
end Go.Proofs.YtalmnogdplhflaaGreatDoor
namespace Go.Proofs.YtalmnogdplhflaaGreatDoor
open Go.RowKit
set_option linter.unusedVariables false
/-- The order of a reader's deed: kind, what and how many. -/
def ordK (f : Nat) : Int := if f = 47 then 1 else if f = 49 then 2 else if f = 50 then 3 else if f = 51 then 4 else if f = 52 then 5 else 6
def ordT (f : Nat) (a : ByteArray) : Int := if f = 47 then sideF a else if f = 49 then atoiV a.data.toList else if f = 52 then sideF a else 0
def ordN (f : Nat) (a b : ByteArray) : Int := if f = 49 then atoiV b.data.toList else if f = 50 then atoiV a.data.toList else if f = 51 then atoiV a.data.toList else if f = 52 then atoiV b.data.toList else 0
theorem order_R (x a b : ByteArray) (f : Nat) (h : readerOf x = some f) (who seq : Int) (w : World) :
    Calls Tryz.prog 36 #[.int .i64 who, .int .i64 seq, deedR f a b] w fun e w' => e = .returned (.agg #[.int .i64 who, .int .i64 seq, .int .i64 (ordK f), .int .i64 (ordT f a), .int .i64 (ordN f a b)]) ∧ Below w.heap.size w w' := by
  unfold readerOf at h
  repeat' split at h
  all_goals first
    | (simp only [Option.some.injEq] at h; subst h; first | exact order_step who seq _ 0 w | exact order_give who seq _ _ w | exact order_drop who seq 0 _ w | exact order_pick who seq 0 _ w | exact order_throw who seq _ _ w | exact order_rest who seq 0 0 w)
    | (simp at h; done)
end Go.Proofs.YtalmnogdplhflaaGreatDoor
namespace Go.Proofs.YtalmnogdplhflaaGreatDoor
open Go.RowKit
set_option linter.unusedVariables false
theorem of_wordB {s x : ByteArray} {k : Nat} (h : x.data.toList = (words s.data.toList).getD k []) : x = wordB s k := (wordB_of h).symm
/-- The order that the program tries. -/
def oK (s : ByteArray) (f : Nat) : Int := ordK f
def oT (s : ByteArray) (f : Nat) : Int := ordT f (wordB s 3)
def oN (s : ByteArray) (f : Nat) : Int := ordN f (wordB s 3) (wordB s 4)
def oW (s : ByteArray) : Int := atoiV (wordB s 0).data.toList
def oS (s : ByteArray) : Int := atoiV (wordB s 1).data.toList
set_option maxRecDepth 20000 in
set_option maxHeartbeats 8000000 in
theorem oread_some (s : ByteArray) (h : (s.size : Int) ≤ 100) (f : Nat) (hf : readerOf (wordB s 2) = some f) (w : World) (hE : Env w) :
    Calls Tryz.prog 25 #[.string s] w fun e w' => (((ordText (oW s) (oS s) (oK s f) (oT s f) (oN s f)).toList = s.toList ∧ e = .returned (.tuple #[.agg #[.int .i64 (oW s), .int .i64 (oS s), .int .i64 (oK s f), .int .i64 (oT s f), .int .i64 (oN s f)], .bool true])) ∨ ((ordText (oW s) (oS s) (oK s f) (oT s f) (oN s f)).toList ≠ s.toList ∧ e = .returned (.tuple #[.agg #[.int .i64 0, .int .i64 0, .int .i64 0, .int .i64 0, .int .i64 0], .bool false]))) ∧ Below w.heap.size w w' := by
  obtain ⟨i0, hi, hz0, hz1, hz2⟩ := info_parts Tryz.info9
  have HE : Hid (Env (w.alloc (.cells #[.int .i64 0, .int .i64 0, .int .i64 0, .int .i64 0, .int .i64 0] 46))) := hE.on ((Below.refl _ _).alloc (by simp) _)
  clear hE
  go_enter Tryz.func25, Tryz.ntmps25
  go_wp2_with fail
  refine (split_eq s (by omega) _ HE.out).mono ?_
  rintro e w1 ⟨ps, hps, rfl, hw1⟩
  have hpl : ps.length ≤ 101 := by
    have h1 := congrArg List.length hps
    rw [List.length_map] at h1
    have h2 := wlen s.data.toList
    rw [size_len] at h2
    omega
  have e0 : ((w.alloc (.cells #[.int .i64 0, .int .i64 0, .int .i64 0, .int .i64 0, .int .i64 0] 46))).heap.size = w.heap.size + 1 := by simp
  have HO : Hid (w1.ownsRow (w.heap.size + 1) 9 1 (.slice (some ⟨w.heap.size + 1, 0, none⟩) ps.length ps.length) ps.length (ps.map Value.string)) := by
    have := World.ownsRow_lit (base := w.heap.size + 1) (e := 9) (size := 1) (w.alloc (.cells #[.int .i64 0, .int .i64 0, .int .i64 0, .int .i64 0, .int .i64 0] 46)) (ps.map Value.string).toArray ps.length (by simp) (by unfold maxLen; omega) (by simp)
    rw [e0] at this
    rw [hw1]
    exact this
  clear e0
  have B1 : Below ((w.alloc (.cells #[.int .i64 0, .int .i64 0, .int .i64 0, .int .i64 0, .int .i64 0] 46))).heap.size (w.alloc (.cells #[.int .i64 0, .int .i64 0, .int .i64 0, .int .i64 0, .int .i64 0] 46)) w1 := by rw [hw1]; exact (Below.refl _ _).alloc (Nat.le_refl _) _
  have HPS : Hid (ps.map (fun x => x.data.toList) = words s.data.toList) := hps
  clear hps hw1
  have hsz1 : w.heap.size + 1 ≤ w1.heap.size := by have := B1.size; simpa using this
  obtain ⟨G, W2, hz9, hcl, hbz, hsz2⟩ := zeros9 (w.heap.size + 1) (w.heap.size + 1) ps.length _ (by omega) w1 HO.out
  have B2 := bthen B1 hbz
  have HCL : Hid (∀ k x, (ps.map Value.string ++ E5)[k]? = some x → W2.cell? ⟨w1.heap.size, k, none⟩ = some x) := hcl
  clear hcl hbz HO
  go_wp2_with (at_builtin; refine Lib.wpList_append_run _ rfl _ _ _ _ rfl _ _ rfl rfl _ _ (hz9 _) ?_)
  obtain ⟨x0, y0, t0, z0⟩ := word_at HPS.out (by omega) 0 (by omega)
  obtain ⟨x1, y1, t1, z1⟩ := word_at HPS.out (by omega) 1 (by omega)
  obtain ⟨x2, y2, t2, z2⟩ := word_at HPS.out (by omega) 2 (by omega)
  obtain ⟨x3, y3, t3, z3⟩ := word_at HPS.out (by omega) 3 (by omega)
  obtain ⟨x4, y4, t4, z4⟩ := word_at HPS.out (by omega) 4 (by omega)
  have hx2w := wordB_of t2
  have d0 := HCL.out 0 _ y0
  have d1 := HCL.out 1 _ y1
  have d2 := HCL.out 2 _ y2
  have d3 := HCL.out 3 _ y3
  have d4 := HCL.out 4 _ y4
  clear y0 y1 y2 y3 y4 HCL hz9
  have hlt2 : w1.heap.size < W2.heap.size := by omega
  have HQ : Hid (oW s = atoiV x0.data.toList ∧ oS s = atoiV x1.data.toList ∧ oK s f = ordK f ∧ oT s f = ordT f x3 ∧ oN s f = ordN f x3 x4) := by
    unfold oW oS oK oT oN
    rw [← of_wordB t0, ← of_wordB t1, ← of_wordB t3, ← of_wordB t4]
    exact ⟨rfl, rfl, rfl, rfl, rfl⟩
  have hr : readerOf x2 = some f := by rw [← hx2w]; exact hf
  clear hf hx2w t0 t1 t2 t3 t4 HPS
  have HR : Hid (readerOf x2 = some f) := hr
  have hcf := reader_call x2 f hr
  have BW : Hid (Below (w.alloc (.cells #[.int .i64 0, .int .i64 0, .int .i64 0, .int .i64 0, .int .i64 0] 46)).heap.size (w.alloc (.cells #[.int .i64 0, .int .i64 0, .int .i64 0, .int .i64 0, .int .i64 0] 46)) W2) := B2
  clear hr B1 B2 hsz2
  refine wp_region_held_drew (S := fun w' => (∀ b o, b < W2.heap.size → w'.cell? ⟨b, o, none⟩ = W2.cell? ⟨b, o, none⟩) ∧ W2.heap.size ≤ w'.heap.size) (by kernel_rfl) ⟨fun _ _ _ => rfl, Nat.le_refl _⟩ ?_
  intro hHeld
  refine wpAnyH_take (i := 1) (v := .slice (some ⟨w1.heap.size, 0, none⟩) (ps.length + 5) G) rfl (by kernel_rfl) (by kernel_rfl) (by kernel_rfl) (fun _ _ _ h => h) (Or.inl ⟨by rfl, ?_⟩) (by assumption) ?_
  · intro wx hSw; first | (go_simp; done) | (go_simp; intro hh; omega)
  try simp only [Act.put, List.setIfInBounds_toArray, List.set_cons_zero, List.set_cons_succ, List.getElem_toArray, List.getElem_cons_zero, List.getElem_cons_succ]
  refine wpAnyH_take (i := 2) (v := .pointer (some ⟨w1.heap.size, 2, none⟩)) rfl (by kernel_rfl) (by kernel_rfl) (by kernel_rfl) (fun _ _ _ h => h) (Or.inl ⟨by rfl, ?_⟩) (by assumption) ?_
  · intro wx hSw; first | (go_simp; done) | (go_simp; intro hh; omega)
  try simp only [Act.put, List.setIfInBounds_toArray, List.set_cons_zero, List.set_cons_succ, List.getElem_toArray, List.getElem_cons_zero, List.getElem_cons_succ]
  refine wpAnyH_take (i := 3) (v := .string x2) rfl (by kernel_rfl) (by kernel_rfl) (by kernel_rfl) (fun _ _ _ h => h) (Or.inl ⟨by rfl, ?_⟩) (by assumption) ?_
  · intro wx hSw; first | (go_simp; done) | (go_simp; intro hh; omega)
  try simp only [Act.put, List.setIfInBounds_toArray, List.set_cons_zero, List.set_cons_succ, List.getElem_toArray, List.getElem_cons_zero, List.getElem_cons_succ]
  refine wpAnyH_ready (rs := [0]) (by kernel_rfl) (by simp) ?_
  refine AllReadyH.cons rfl (fun K hK => ?_) AllReadyH.nil
  go_simp
  go_wp2_with (go_at_call 35; refine (readers _).mono ?_; rintro e w3 ⟨rfl, rfl⟩)
  have hb3 : Below W2.drew.heap.size W2.drew ((W2.alloc (.map TAB 6)).drew) := (Below.refl _ _).alloc (Nat.le_refl _) _
  have hmb : ((W2.alloc (.map TAB 6)).drew).heap[W2.heap.size]? = some (.map TAB 6) := (MapKept.heap_alloc W2 _).1
  refine hK.out _ _ (keepS (by assumption) hb3) (fun hHeld => ?_)
  clear hK K
  try simp only [Act.put, List.setIfInBounds_toArray, List.set_cons_zero, List.set_cons_succ, List.getElem_toArray, List.getElem_cons_zero, List.getElem_cons_succ]
  generalize (W2.alloc (.map TAB 6)).drew = w3 at *
  have hlk : (Instr.lookup 63 (.map (some W2.heap.size)) (.string x2) true).run Tryz.prog w3 = .ok (.tuple #[.func (.func f) #[] #[], .bool true]) w3 := look_yes w3 _ hmb x2 f HR.out
  clear hmb
  refine wpAnyH_ready (rs := [4]) (by kernel_rfl) (by simp) ?_
  refine AllReadyH.cons rfl (fun K hK => ?_) AllReadyH.nil
  go_simp
  refine hK.out _ _ (by assumption) (fun hHeld => ?_)
  clear hK K
  try simp only [Act.put, List.setIfInBounds_toArray, List.set_cons_zero, List.set_cons_succ, List.getElem_toArray, List.getElem_cons_zero, List.getElem_cons_succ]
  refine wpAnyH_take (i := 5) (v := .tuple #[.func (.func f) #[] #[], .bool true]) rfl (by kernel_rfl) (by kernel_rfl) (by kernel_rfl) (fun _ _ _ h => h) (Or.inl ⟨by rfl, ?_⟩) (by assumption) ?_
  · intro wx hSw; first | (go_simp; done) | (go_simp; intro hh; omega)
  try simp only [Act.put, List.setIfInBounds_toArray, List.set_cons_zero, List.set_cons_succ, List.getElem_toArray, List.getElem_cons_zero, List.getElem_cons_succ]
  refine wpAnyH_take (i := 6) (v := .func (.func f) #[] #[]) rfl (by kernel_rfl) (by kernel_rfl) (by kernel_rfl) (fun _ _ _ h => h) (Or.inl ⟨by rfl, ?_⟩) (by assumption) ?_
  · intro wx hSw; first | (go_simp; done) | (go_simp; intro hh; omega)
  try simp only [Act.put, List.setIfInBounds_toArray, List.set_cons_zero, List.set_cons_succ, List.getElem_toArray, List.getElem_cons_zero, List.getElem_cons_succ]
  refine wpAnyH_take (i := 7) (v := .bool true) rfl (by kernel_rfl) (by kernel_rfl) (by kernel_rfl) (fun _ _ _ h => h) (Or.inl ⟨by rfl, ?_⟩) (by assumption) ?_
  · intro wx hSw; first | (go_simp; done) | (go_simp; intro hh; omega)
  try simp only [Act.put, List.setIfInBounds_toArray, List.set_cons_zero, List.set_cons_succ, List.getElem_toArray, List.getElem_cons_zero, List.getElem_cons_succ]
  refine wpAnyH_take (i := 8) (v := .func (.func f) #[] #[]) rfl (by kernel_rfl) (by kernel_rfl) (by kernel_rfl) (fun _ _ _ h => h) (Or.inl ⟨by rfl, ?_⟩) (by assumption) ?_
  · intro wx hSw; first | (go_simp; done) | (go_simp; intro hh; omega)
  try simp only [Act.put, List.setIfInBounds_toArray, List.set_cons_zero, List.set_cons_succ, List.getElem_toArray, List.getElem_cons_zero, List.getElem_cons_succ]
  refine wpAnyH_take (i := 9) (v := .bool true) rfl (by kernel_rfl) (by kernel_rfl) (by kernel_rfl) (fun _ _ _ h => h) (Or.inl ⟨by rfl, ?_⟩) (by assumption) ?_
  · intro wx hSw; first | (go_simp; done) | (go_simp; intro hh; omega)
  try simp only [Act.put, List.setIfInBounds_toArray, List.set_cons_zero, List.set_cons_succ, List.getElem_toArray, List.getElem_cons_zero, List.getElem_cons_succ]
  refine wpAnyH_done (by kernel_rfl) ?_ _
  have hcm := (bcell hb3).1
  have e0 : w3.cell? ⟨w1.heap.size, 0, none⟩ = some (.string x0) := (hcm _ 0 hlt2).trans d0
  have e1 : w3.cell? ⟨w1.heap.size, 1, none⟩ = some (.string x1) := (hcm _ 1 hlt2).trans d1
  have e3 : w3.cell? ⟨w1.heap.size, 3, none⟩ = some (.string x3) := (hcm _ 3 hlt2).trans d3
  have e4 : w3.cell? ⟨w1.heap.size, 4, none⟩ = some (.string x4) := (hcm _ 4 hlt2).trans d4
  have hlt3 : w1.heap.size < w3.heap.size := Nat.lt_of_lt_of_le hlt2 hb3.size
  have BW3 : Hid (Below (w.alloc (.cells #[.int .i64 0, .int .i64 0, .int .i64 0, .int .i64 0, .int .i64 0] 46)).heap.size (w.alloc (.cells #[.int .i64 0, .int .i64 0, .int .i64 0, .int .i64 0, .int .i64 0] 46)) w3) := bthen BW.out (bthen ((Below.refl _ _).drew) hb3)
  have HE3 : Hid (Env w3) := HE.out.on BW3.out
  clear hcm hlk hHeld hb3 d0 d1 d2 d3 d4 hlt2 BW
  go_wp2
  refine wp_region_held_drew (S := fun w' => (∀ b o, b < w3.heap.size → w'.cell? ⟨b, o, none⟩ = w3.cell? ⟨b, o, none⟩) ∧ w3.heap.size ≤ w'.heap.size) (by kernel_rfl) ⟨fun _ _ _ => rfl, Nat.le_refl _⟩ ?_
  intro hHeld
  have Bc : Below w3.heap.size w3 w3.drew := (Below.refl _ _).drew
  generalize w3.drew = wy at *
  refine wpAnyH_take (i := 0) (v := .slice (some ⟨w1.heap.size, 0, none⟩) (ps.length + 5) G) rfl (by kernel_rfl) (by kernel_rfl) (by kernel_rfl) (fun _ _ _ h => h) (Or.inl ⟨by rfl, ?_⟩) (by assumption) ?_
  · intro wx hSw; first | (go_simp; done) | (go_simp; intro hh; omega)
  try simp only [Act.put, List.setIfInBounds_toArray, List.set_cons_zero, List.set_cons_succ, List.getElem_toArray, List.getElem_cons_zero]
  refine wpAnyH_take (i := 1) (v := .pointer (some ⟨w1.heap.size, 0, none⟩)) rfl (by kernel_rfl) (by kernel_rfl) (by kernel_rfl) (fun _ _ _ h => h) (Or.inl ⟨by rfl, ?_⟩) (by assumption) ?_
  · intro wx hSw; first | (go_simp; done) | (go_simp; intro hh; omega)
  try simp only [Act.put, List.setIfInBounds_toArray, List.set_cons_zero, List.set_cons_succ, List.getElem_toArray, List.getElem_cons_zero, List.getElem_cons_succ]
  refine wpAnyH_take (i := 2) (v := .string x0) rfl (by kernel_rfl) (by kernel_rfl) (by kernel_rfl) (fun _ _ _ h => h) (Or.inl ⟨by rfl, ?_⟩) (by assumption) ?_
  · intro wx hSw; first | (go_simp; done) | (go_simp; intro hh; omega)
  try simp only [Act.put, List.setIfInBounds_toArray, List.set_cons_zero, List.set_cons_succ, List.getElem_toArray, List.getElem_cons_zero, List.getElem_cons_succ]
  refine wpAnyH_take (i := 4) (v := .slice (some ⟨w1.heap.size, 0, none⟩) (ps.length + 5) G) rfl (by kernel_rfl) (by kernel_rfl) (by kernel_rfl) (fun _ _ _ h => h) (Or.inl ⟨by rfl, ?_⟩) (by assumption) ?_
  · intro wx hSw; first | (go_simp; done) | (go_simp; intro hh; omega)
  try simp only [Act.put, List.setIfInBounds_toArray, List.set_cons_zero, List.set_cons_succ, List.getElem_toArray, List.getElem_cons_zero, List.getElem_cons_succ]
  refine wpAnyH_take (i := 5) (v := .pointer (some ⟨w1.heap.size, 1, none⟩)) rfl (by kernel_rfl) (by kernel_rfl) (by kernel_rfl) (fun _ _ _ h => h) (Or.inl ⟨by rfl, ?_⟩) (by assumption) ?_
  · intro wx hSw; first | (go_simp; done) | (go_simp; intro hh; omega)
  try simp only [Act.put, List.setIfInBounds_toArray, List.set_cons_zero, List.set_cons_succ, List.getElem_toArray, List.getElem_cons_zero, List.getElem_cons_succ]
  refine wpAnyH_take (i := 6) (v := .string x1) rfl (by kernel_rfl) (by kernel_rfl) (by kernel_rfl) (fun _ _ _ h => h) (Or.inl ⟨by rfl, ?_⟩) (by assumption) ?_
  · intro wx hSw; first | (go_simp; done) | (go_simp; intro hh; omega)
  try simp only [Act.put, List.setIfInBounds_toArray, List.set_cons_zero, List.set_cons_succ, List.getElem_toArray, List.getElem_cons_zero, List.getElem_cons_succ]
  refine wpAnyH_take (i := 8) (v := .func (.func f) #[] #[]) rfl (by kernel_rfl) (by kernel_rfl) (by kernel_rfl) (fun _ _ _ h => h) (Or.inl ⟨by rfl, ?_⟩) (by assumption) ?_
  · intro wx hSw; first | (go_simp; done) | (go_simp; intro hh; omega)
  try simp only [Act.put, List.setIfInBounds_toArray, List.set_cons_zero, List.set_cons_succ, List.getElem_toArray, List.getElem_cons_zero, List.getElem_cons_succ]
  refine wpAnyH_take (i := 9) (v := .slice (some ⟨w1.heap.size, 0, none⟩) (ps.length + 5) G) rfl (by kernel_rfl) (by kernel_rfl) (by kernel_rfl) (fun _ _ _ h => h) (Or.inl ⟨by rfl, ?_⟩) (by assumption) ?_
  · intro wx hSw; first | (go_simp; done) | (go_simp; intro hh; omega)
  try simp only [Act.put, List.setIfInBounds_toArray, List.set_cons_zero, List.set_cons_succ, List.getElem_toArray, List.getElem_cons_zero, List.getElem_cons_succ]
  refine wpAnyH_take (i := 10) (v := .pointer (some ⟨w1.heap.size, 3, none⟩)) rfl (by kernel_rfl) (by kernel_rfl) (by kernel_rfl) (fun _ _ _ h => h) (Or.inl ⟨by rfl, ?_⟩) (by assumption) ?_
  · intro wx hSw; first | (go_simp; done) | (go_simp; intro hh; omega)
  try simp only [Act.put, List.setIfInBounds_toArray, List.set_cons_zero, List.set_cons_succ, List.getElem_toArray, List.getElem_cons_zero, List.getElem_cons_succ]
  refine wpAnyH_take (i := 11) (v := .string x3) rfl (by kernel_rfl) (by kernel_rfl) (by kernel_rfl) (fun _ _ _ h => h) (Or.inl ⟨by rfl, ?_⟩) (by assumption) ?_
  · intro wx hSw; first | (go_simp; done) | (go_simp; intro hh; omega)
  try simp only [Act.put, List.setIfInBounds_toArray, List.set_cons_zero, List.set_cons_succ, List.getElem_toArray, List.getElem_cons_zero, List.getElem_cons_succ]
  refine wpAnyH_take (i := 12) (v := .slice (some ⟨w1.heap.size, 0, none⟩) (ps.length + 5) G) rfl (by kernel_rfl) (by kernel_rfl) (by kernel_rfl) (fun _ _ _ h => h) (Or.inl ⟨by rfl, ?_⟩) (by assumption) ?_
  · intro wx hSw; first | (go_simp; done) | (go_simp; intro hh; omega)
  try simp only [Act.put, List.setIfInBounds_toArray, List.set_cons_zero, List.set_cons_succ, List.getElem_toArray, List.getElem_cons_zero, List.getElem_cons_succ]
  refine wpAnyH_take (i := 13) (v := .pointer (some ⟨w1.heap.size, 4, none⟩)) rfl (by kernel_rfl) (by kernel_rfl) (by kernel_rfl) (fun _ _ _ h => h) (Or.inl ⟨by rfl, ?_⟩) (by assumption) ?_
  · intro wx hSw; first | (go_simp; done) | (go_simp; intro hh; omega)
  try simp only [Act.put, List.setIfInBounds_toArray, List.set_cons_zero, List.set_cons_succ, List.getElem_toArray, List.getElem_cons_zero, List.getElem_cons_succ]
  refine wpAnyH_take (i := 14) (v := .string x4) rfl (by kernel_rfl) (by kernel_rfl) (by kernel_rfl) (fun _ _ _ h => h) (Or.inl ⟨by rfl, ?_⟩) (by assumption) ?_
  · intro wx hSw; first | (go_simp; done) | (go_simp; intro hh; omega)
  try simp only [Act.put, List.setIfInBounds_toArray, List.set_cons_zero, List.set_cons_succ, List.getElem_toArray, List.getElem_cons_zero, List.getElem_cons_succ]
  refine wpAnyH_ready (rs := [3, 17]) (by kernel_rfl) (by simp) ?_
  refine AllReadyH.cons rfl (fun K hK => ?_) (AllReadyH.cons rfl (fun K hK => ?_) AllReadyH.nil)
  · skip
    go_simp
    go_wp2_with fail
    refine (loose x0 z0 _ (HE3.out.on Bc)).mono ?_
    rintro e wa ⟨rfl, hbwa⟩
    refine hK.out _ _ (keepS (by assumption) hbwa) (fun hHeld => ?_)
    clear hK K
    try simp only [Act.put, List.setIfInBounds_toArray, List.set_cons_zero, List.set_cons_succ, List.getElem_toArray, List.getElem_cons_zero, List.getElem_cons_succ]
    replace Bc := bthen Bc hbwa
    clear hbwa
    refine wpAnyH_ready (rs := [7, 17]) (by kernel_rfl) (by simp) ?_
    refine AllReadyH.cons rfl (fun K hK => ?_) (AllReadyH.cons rfl (fun K hK => ?_) AllReadyH.nil)
    · skip
      go_simp
      go_wp2_with fail
      refine (loose x1 z1 _ (HE3.out.on Bc)).mono ?_
      rintro e wb ⟨rfl, hbwb⟩
      refine hK.out _ _ (keepS (by assumption) hbwb) (fun hHeld => ?_)
      clear hK K
      try simp only [Act.put, List.setIfInBounds_toArray, List.set_cons_zero, List.set_cons_succ, List.getElem_toArray, List.getElem_cons_zero, List.getElem_cons_succ]
      replace Bc := bthen Bc hbwb
      clear hbwb
      refine wpAnyH_ready (rs := [15, 17]) (by kernel_rfl) (by simp) ?_
      refine AllReadyH.cons rfl (fun K hK => ?_) (AllReadyH.cons rfl (fun K hK => ?_) AllReadyH.nil)
      · skip
        go_simp
        go_wp2_with fail
        refine (read_any x2 x3 x4 f HR.out z3 z4 _ (HE3.out.on Bc)).mono ?_
        rintro e wc ⟨rfl, hbwc⟩
        refine hK.out _ _ (keepS (by assumption) hbwc) (fun hHeld => ?_)
        clear hK K
        try simp only [Act.put, List.setIfInBounds_toArray, List.set_cons_zero, List.set_cons_succ, List.getElem_toArray, List.getElem_cons_zero, List.getElem_cons_succ]
        replace Bc := bthen Bc hbwc
        clear hbwc
        refine wpAnyH_ready (rs := [16, 17]) (by kernel_rfl) (by simp) ?_
        refine AllReadyH.cons rfl (fun K hK => ?_) (AllReadyH.cons rfl (fun K hK => ?_) AllReadyH.nil)
        · skip
          go_simp
          go_wp2_with fail
          refine (order_R x2 x3 x4 f HR.out _ _ _).mono ?_
          rintro e wd ⟨rfl, hbwd⟩
          refine hK.out _ _ (keepS (by assumption) hbwd) (fun hHeld => ?_)
          clear hK K
          try simp only [Act.put, List.setIfInBounds_toArray, List.set_cons_zero, List.set_cons_succ, List.getElem_toArray, List.getElem_cons_zero, List.getElem_cons_succ]
          replace Bc := bthen Bc hbwd
          clear hbwd
          refine wpAnyH_ready (rs := [17]) (by kernel_rfl) (by simp) ?_
          refine AllReadyH.cons rfl (fun K hK => ?_) AllReadyH.nil
          go_simp
          have BA : Below wd.heap.size wd (wd.alloc (.cells #[.int .i64 0, .int .i64 0, .int .i64 0, .int .i64 0, .int .i64 0] 46)) := (Below.refl _ _).alloc (Nat.le_refl _) _
          refine hK.out _ _ (keepS (by assumption) BA) (fun hHeld => ?_)
          clear hK K
          try simp only [Act.put, List.setIfInBounds_toArray, List.set_cons_zero, List.set_cons_succ, List.getElem_toArray, List.getElem_cons_zero, List.getElem_cons_succ]
          have a0 : (wd.alloc (.cells #[.int .i64 0, .int .i64 0, .int .i64 0, .int .i64 0, .int .i64 0] 46)).cell? ⟨wd.heap.size, 0, none⟩ = some (.int .i64 0) := by simp
          have b0 : (wd.alloc (.cells #[.int .i64 0, .int .i64 0, .int .i64 0, .int .i64 0, .int .i64 0] 46)).frozen? ⟨wd.heap.size, 0, none⟩ = false := by simp
          have a1 : (wd.alloc (.cells #[.int .i64 0, .int .i64 0, .int .i64 0, .int .i64 0, .int .i64 0] 46)).cell? ⟨wd.heap.size, 1, none⟩ = some (.int .i64 0) := by simp
          have b1 : (wd.alloc (.cells #[.int .i64 0, .int .i64 0, .int .i64 0, .int .i64 0, .int .i64 0] 46)).frozen? ⟨wd.heap.size, 1, none⟩ = false := by simp
          have a2 : (wd.alloc (.cells #[.int .i64 0, .int .i64 0, .int .i64 0, .int .i64 0, .int .i64 0] 46)).cell? ⟨wd.heap.size, 2, none⟩ = some (.int .i64 0) := by simp
          have b2 : (wd.alloc (.cells #[.int .i64 0, .int .i64 0, .int .i64 0, .int .i64 0, .int .i64 0] 46)).frozen? ⟨wd.heap.size, 2, none⟩ = false := by simp
          have a3 : (wd.alloc (.cells #[.int .i64 0, .int .i64 0, .int .i64 0, .int .i64 0, .int .i64 0] 46)).cell? ⟨wd.heap.size, 3, none⟩ = some (.int .i64 0) := by simp
          have b3 : (wd.alloc (.cells #[.int .i64 0, .int .i64 0, .int .i64 0, .int .i64 0, .int .i64 0] 46)).frozen? ⟨wd.heap.size, 3, none⟩ = false := by simp
          have a4 : (wd.alloc (.cells #[.int .i64 0, .int .i64 0, .int .i64 0, .int .i64 0, .int .i64 0] 46)).cell? ⟨wd.heap.size, 4, none⟩ = some (.int .i64 0) := by simp
          have b4 : (wd.alloc (.cells #[.int .i64 0, .int .i64 0, .int .i64 0, .int .i64 0, .int .i64 0] 46)).frozen? ⟨wd.heap.size, 4, none⟩ = false := by simp
          have hGle : w3.heap.size ≤ wd.heap.size := Bc.size
          have hGlt : wd.heap.size < (wd.alloc (.cells #[.int .i64 0, .int .i64 0, .int .i64 0, .int .i64 0, .int .i64 0] 46)).heap.size := by simp
          replace Bc := bthen Bc BA
          clear BA
          generalize hgg : wd.heap.size = gg at *
          generalize (wd.alloc (.cells #[.int .i64 0, .int .i64 0, .int .i64 0, .int .i64 0, .int .i64 0] 46)) = wz at *
          clear hgg
          refine wpAnyH_ready (rs := [18]) (by kernel_rfl) (by simp) ?_
          refine AllReadyH.cons rfl (fun K hK => ?_) AllReadyH.nil
          go_simp
          have BS : Below w3.heap.size w3 (((((wz.setCell ⟨gg, 0, none⟩ (.int .i64 (atoiV x0.data.toList))).setCell ⟨gg, 1, none⟩ (.int .i64 (atoiV x1.data.toList))).setCell ⟨gg, 2, none⟩ (.int .i64 (ordK f))).setCell ⟨gg, 3, none⟩ (.int .i64 (ordT f x3))).setCell ⟨gg, 4, none⟩ (.int .i64 (ordN f x3 x4))) := by
            iterate 5 (refine Below.setCell ?_ hGle _)
            exact Bc
          refine hK.out _ _ ⟨fun b o hb => BS.cell (p := ⟨b, o, none⟩) hb, BS.size⟩ (fun hHeld => ?_)
          clear hK K
          try simp only [Act.put, List.setIfInBounds_toArray, List.set_cons_zero, List.set_cons_succ, List.getElem_toArray, List.getElem_cons_zero, List.getElem_cons_succ]
          refine wpAnyH_done (by kernel_rfl) ?_ _
          have v0 : ((((((wz.setCell ⟨gg, 0, none⟩ (.int .i64 (atoiV x0.data.toList))).setCell ⟨gg, 1, none⟩ (.int .i64 (atoiV x1.data.toList))).setCell ⟨gg, 2, none⟩ (.int .i64 (ordK f))).setCell ⟨gg, 3, none⟩ (.int .i64 (ordT f x3))).setCell ⟨gg, 4, none⟩ (.int .i64 (ordN f x3 x4)))).cell? ⟨gg, 0, none⟩ = some (.int .i64 (atoiV x0.data.toList)) := by simp [go_sem, a0]
          have v1 : ((((((wz.setCell ⟨gg, 0, none⟩ (.int .i64 (atoiV x0.data.toList))).setCell ⟨gg, 1, none⟩ (.int .i64 (atoiV x1.data.toList))).setCell ⟨gg, 2, none⟩ (.int .i64 (ordK f))).setCell ⟨gg, 3, none⟩ (.int .i64 (ordT f x3))).setCell ⟨gg, 4, none⟩ (.int .i64 (ordN f x3 x4)))).cell? ⟨gg, 1, none⟩ = some (.int .i64 (atoiV x1.data.toList)) := by simp [go_sem, a1]
          have v2 : ((((((wz.setCell ⟨gg, 0, none⟩ (.int .i64 (atoiV x0.data.toList))).setCell ⟨gg, 1, none⟩ (.int .i64 (atoiV x1.data.toList))).setCell ⟨gg, 2, none⟩ (.int .i64 (ordK f))).setCell ⟨gg, 3, none⟩ (.int .i64 (ordT f x3))).setCell ⟨gg, 4, none⟩ (.int .i64 (ordN f x3 x4)))).cell? ⟨gg, 2, none⟩ = some (.int .i64 (ordK f)) := by simp [go_sem, a2]
          have v3 : ((((((wz.setCell ⟨gg, 0, none⟩ (.int .i64 (atoiV x0.data.toList))).setCell ⟨gg, 1, none⟩ (.int .i64 (atoiV x1.data.toList))).setCell ⟨gg, 2, none⟩ (.int .i64 (ordK f))).setCell ⟨gg, 3, none⟩ (.int .i64 (ordT f x3))).setCell ⟨gg, 4, none⟩ (.int .i64 (ordN f x3 x4)))).cell? ⟨gg, 3, none⟩ = some (.int .i64 (ordT f x3)) := by simp [go_sem, a3]
          have v4 : ((((((wz.setCell ⟨gg, 0, none⟩ (.int .i64 (atoiV x0.data.toList))).setCell ⟨gg, 1, none⟩ (.int .i64 (atoiV x1.data.toList))).setCell ⟨gg, 2, none⟩ (.int .i64 (ordK f))).setCell ⟨gg, 3, none⟩ (.int .i64 (ordT f x3))).setCell ⟨gg, 4, none⟩ (.int .i64 (ordN f x3 x4)))).cell? ⟨gg, 4, none⟩ = some (.int .i64 (ordN f x3 x4)) := by simp [go_sem, a4]
          have hGS : gg < ((((((wz.setCell ⟨gg, 0, none⟩ (.int .i64 (atoiV x0.data.toList))).setCell ⟨gg, 1, none⟩ (.int .i64 (atoiV x1.data.toList))).setCell ⟨gg, 2, none⟩ (.int .i64 (ordK f))).setCell ⟨gg, 3, none⟩ (.int .i64 (ordT f x3))).setCell ⟨gg, 4, none⟩ (.int .i64 (ordN f x3 x4)))).heap.size := by simpa [World.setCell] using hGlt
          generalize (((((wz.setCell ⟨gg, 0, none⟩ (.int .i64 (atoiV x0.data.toList))).setCell ⟨gg, 1, none⟩ (.int .i64 (atoiV x1.data.toList))).setCell ⟨gg, 2, none⟩ (.int .i64 (ordK f))).setCell ⟨gg, 3, none⟩ (.int .i64 (ordT f x3))).setCell ⟨gg, 4, none⟩ (.int .i64 (ordN f x3 x4))) = W5 at *
          clear a0 a1 a2 a3 a4 b0 b1 b2 b3 b4 hGlt
          generalize gg = GG at *
          go_wp2_with fail
          refine (ordText_impl _ _ _ _ _ _ (HE3.out.on BS).tab).mono ?_
          rintro e w6 ⟨rfl, hb6⟩
          obtain ⟨hc6, hf6⟩ := bcell (bthen (bthen BW3.out BS) hb6)
          have hcv := (bcell hb6).1
          have r0 : w6.cell? ⟨w.heap.size, 0, none⟩ = some (.int .i64 0) := (hc6 _ 0 (by simp)).trans (by simp)
          have s0 : w6.frozen? ⟨w.heap.size, 0, none⟩ = false := (hf6 _ 0 (by simp)).trans (by simp)
          replace v0 := (hcv _ 0 hGS).trans v0
          have r1 : w6.cell? ⟨w.heap.size, 1, none⟩ = some (.int .i64 0) := (hc6 _ 1 (by simp)).trans (by simp)
          have s1 : w6.frozen? ⟨w.heap.size, 1, none⟩ = false := (hf6 _ 1 (by simp)).trans (by simp)
          replace v1 := (hcv _ 1 hGS).trans v1
          have r2 : w6.cell? ⟨w.heap.size, 2, none⟩ = some (.int .i64 0) := (hc6 _ 2 (by simp)).trans (by simp)
          have s2 : w6.frozen? ⟨w.heap.size, 2, none⟩ = false := (hf6 _ 2 (by simp)).trans (by simp)
          replace v2 := (hcv _ 2 hGS).trans v2
          have r3 : w6.cell? ⟨w.heap.size, 3, none⟩ = some (.int .i64 0) := (hc6 _ 3 (by simp)).trans (by simp)
          have s3 : w6.frozen? ⟨w.heap.size, 3, none⟩ = false := (hf6 _ 3 (by simp)).trans (by simp)
          replace v3 := (hcv _ 3 hGS).trans v3
          have r4 : w6.cell? ⟨w.heap.size, 4, none⟩ = some (.int .i64 0) := (hc6 _ 4 (by simp)).trans (by simp)
          have s4 : w6.frozen? ⟨w.heap.size, 4, none⟩ = false := (hf6 _ 4 (by simp)).trans (by simp)
          replace v4 := (hcv _ 4 hGS).trans v4
          have HB6 : Hid (Below w.heap.size w w6) := bthen ((Below.refl _ _).alloc (by simp) _) (bthen (bthen BW3.out BS) hb6)
          obtain ⟨q0, q1, q2, q3, q4⟩ := HQ.out
          clear hc6 hf6 hcv hb6 BS hHeld
          by_cases ht : (ordText (atoiV x0.data.toList) (atoiV x1.data.toList) (ordK f) (ordT f x3) (ordN f x3 x4)).toList = s.toList
          · have ht' : ((ordText (atoiV x0.data.toList) (atoiV x1.data.toList) (ordK f) (ordT f x3) (ordN f x3 x4)).toList == s.toList) = true := by simpa using ht
            have HT : Hid ((ordText (oW s) (oS s) (oK s f) (oT s f) (oN s f)).toList = s.toList) := by unfold Hid; rw [q0, q1, q2, q3, q4]; exact ht
            have HQ2 := HQ
            clear ht q0 q1 q2 q3 q4
            go_wp2
            exact bodyPost_ret (v := .tuple #[.agg #[.int .i64 (atoiV x0.data.toList), .int .i64 (atoiV x1.data.toList), .int .i64 (ordK f), .int .i64 (ordT f x3), .int .i64 (ordN f x3 x4)], .bool true]) (by simp [results, Tryz.results25, go_sem, r0, r1, r2, r3, r4]) rfl ⟨.inl ⟨HT.out, by obtain ⟨q0, q1, q2, q3, q4⟩ := HQ2.out; rw [q0, q1, q2, q3, q4]⟩, by (iterate 5 (refine Below.setCell ?_ (by simp) _)); exact HB6.out⟩
          · have ht' : ((ordText (atoiV x0.data.toList) (atoiV x1.data.toList) (ordK f) (ordT f x3) (ordN f x3 x4)).toList == s.toList) = false := by simpa using ht
            have HT : Hid ((ordText (oW s) (oS s) (oK s f) (oT s f) (oN s f)).toList ≠ s.toList) := by unfold Hid; rw [q0, q1, q2, q3, q4]; exact ht
            clear ht q0 q1 q2 q3 q4
            go_wp2
            exact bodyPost_ret (v := .tuple #[.agg #[.int .i64 0, .int .i64 0, .int .i64 0, .int .i64 0, .int .i64 0], .bool false]) (by simp [results, Tryz.results25, go_sem, r0, r1, r2, r3, r4]) rfl ⟨.inr ⟨HT.out, rfl⟩, by (iterate 5 (refine Below.setCell ?_ (by simp) _)); exact HB6.out⟩
        · skip
          go_simp
          have BA : Below wc.heap.size wc (wc.alloc (.cells #[.int .i64 0, .int .i64 0, .int .i64 0, .int .i64 0, .int .i64 0] 46)) := (Below.refl _ _).alloc (Nat.le_refl _) _
          refine hK.out _ _ (keepS (by assumption) BA) (fun hHeld => ?_)
          clear hK K
          try simp only [Act.put, List.setIfInBounds_toArray, List.set_cons_zero, List.set_cons_succ, List.getElem_toArray, List.getElem_cons_zero, List.getElem_cons_succ]
          have a0 : (wc.alloc (.cells #[.int .i64 0, .int .i64 0, .int .i64 0, .int .i64 0, .int .i64 0] 46)).cell? ⟨wc.heap.size, 0, none⟩ = some (.int .i64 0) := by simp
          have b0 : (wc.alloc (.cells #[.int .i64 0, .int .i64 0, .int .i64 0, .int .i64 0, .int .i64 0] 46)).frozen? ⟨wc.heap.size, 0, none⟩ = false := by simp
          have a1 : (wc.alloc (.cells #[.int .i64 0, .int .i64 0, .int .i64 0, .int .i64 0, .int .i64 0] 46)).cell? ⟨wc.heap.size, 1, none⟩ = some (.int .i64 0) := by simp
          have b1 : (wc.alloc (.cells #[.int .i64 0, .int .i64 0, .int .i64 0, .int .i64 0, .int .i64 0] 46)).frozen? ⟨wc.heap.size, 1, none⟩ = false := by simp
          have a2 : (wc.alloc (.cells #[.int .i64 0, .int .i64 0, .int .i64 0, .int .i64 0, .int .i64 0] 46)).cell? ⟨wc.heap.size, 2, none⟩ = some (.int .i64 0) := by simp
          have b2 : (wc.alloc (.cells #[.int .i64 0, .int .i64 0, .int .i64 0, .int .i64 0, .int .i64 0] 46)).frozen? ⟨wc.heap.size, 2, none⟩ = false := by simp
          have a3 : (wc.alloc (.cells #[.int .i64 0, .int .i64 0, .int .i64 0, .int .i64 0, .int .i64 0] 46)).cell? ⟨wc.heap.size, 3, none⟩ = some (.int .i64 0) := by simp
          have b3 : (wc.alloc (.cells #[.int .i64 0, .int .i64 0, .int .i64 0, .int .i64 0, .int .i64 0] 46)).frozen? ⟨wc.heap.size, 3, none⟩ = false := by simp
          have a4 : (wc.alloc (.cells #[.int .i64 0, .int .i64 0, .int .i64 0, .int .i64 0, .int .i64 0] 46)).cell? ⟨wc.heap.size, 4, none⟩ = some (.int .i64 0) := by simp
          have b4 : (wc.alloc (.cells #[.int .i64 0, .int .i64 0, .int .i64 0, .int .i64 0, .int .i64 0] 46)).frozen? ⟨wc.heap.size, 4, none⟩ = false := by simp
          have hGle : w3.heap.size ≤ wc.heap.size := Bc.size
          have hGlt : wc.heap.size < (wc.alloc (.cells #[.int .i64 0, .int .i64 0, .int .i64 0, .int .i64 0, .int .i64 0] 46)).heap.size := by simp
          replace Bc := bthen Bc BA
          clear BA
          generalize hgg : wc.heap.size = gg at *
          generalize (wc.alloc (.cells #[.int .i64 0, .int .i64 0, .int .i64 0, .int .i64 0, .int .i64 0] 46)) = wz at *
          clear hgg
          refine wpAnyH_ready (rs := [16]) (by kernel_rfl) (by simp) ?_
          refine AllReadyH.cons rfl (fun K hK => ?_) AllReadyH.nil
          go_simp
          go_wp2_with fail
          refine (order_R x2 x3 x4 f HR.out _ _ _).mono ?_
          rintro e wd ⟨rfl, hbwd⟩
          refine hK.out _ _ (keepS (by assumption) hbwd) (fun hHeld => ?_)
          clear hK K
          try simp only [Act.put, List.setIfInBounds_toArray, List.set_cons_zero, List.set_cons_succ, List.getElem_toArray, List.getElem_cons_zero, List.getElem_cons_succ]
          replace Bc := bthen Bc hbwd
          replace a0 := (hbwd.cell (p := ⟨gg, 0, none⟩) hGlt).trans a0
          replace b0 := (hbwd.frozen (p := ⟨gg, 0, none⟩) hGlt).trans b0
          replace a1 := (hbwd.cell (p := ⟨gg, 1, none⟩) hGlt).trans a1
          replace b1 := (hbwd.frozen (p := ⟨gg, 1, none⟩) hGlt).trans b1
          replace a2 := (hbwd.cell (p := ⟨gg, 2, none⟩) hGlt).trans a2
          replace b2 := (hbwd.frozen (p := ⟨gg, 2, none⟩) hGlt).trans b2
          replace a3 := (hbwd.cell (p := ⟨gg, 3, none⟩) hGlt).trans a3
          replace b3 := (hbwd.frozen (p := ⟨gg, 3, none⟩) hGlt).trans b3
          replace a4 := (hbwd.cell (p := ⟨gg, 4, none⟩) hGlt).trans a4
          replace b4 := (hbwd.frozen (p := ⟨gg, 4, none⟩) hGlt).trans b4
          replace hGlt := Nat.lt_of_lt_of_le hGlt hbwd.size
          clear hbwd
          refine wpAnyH_ready (rs := [18]) (by kernel_rfl) (by simp) ?_
          refine AllReadyH.cons rfl (fun K hK => ?_) AllReadyH.nil
          go_simp
          have BS : Below w3.heap.size w3 (((((wd.setCell ⟨gg, 0, none⟩ (.int .i64 (atoiV x0.data.toList))).setCell ⟨gg, 1, none⟩ (.int .i64 (atoiV x1.data.toList))).setCell ⟨gg, 2, none⟩ (.int .i64 (ordK f))).setCell ⟨gg, 3, none⟩ (.int .i64 (ordT f x3))).setCell ⟨gg, 4, none⟩ (.int .i64 (ordN f x3 x4))) := by
            iterate 5 (refine Below.setCell ?_ hGle _)
            exact Bc
          refine hK.out _ _ ⟨fun b o hb => BS.cell (p := ⟨b, o, none⟩) hb, BS.size⟩ (fun hHeld => ?_)
          clear hK K
          try simp only [Act.put, List.setIfInBounds_toArray, List.set_cons_zero, List.set_cons_succ, List.getElem_toArray, List.getElem_cons_zero, List.getElem_cons_succ]
          refine wpAnyH_done (by kernel_rfl) ?_ _
          have v0 : ((((((wd.setCell ⟨gg, 0, none⟩ (.int .i64 (atoiV x0.data.toList))).setCell ⟨gg, 1, none⟩ (.int .i64 (atoiV x1.data.toList))).setCell ⟨gg, 2, none⟩ (.int .i64 (ordK f))).setCell ⟨gg, 3, none⟩ (.int .i64 (ordT f x3))).setCell ⟨gg, 4, none⟩ (.int .i64 (ordN f x3 x4)))).cell? ⟨gg, 0, none⟩ = some (.int .i64 (atoiV x0.data.toList)) := by simp [go_sem, a0]
          have v1 : ((((((wd.setCell ⟨gg, 0, none⟩ (.int .i64 (atoiV x0.data.toList))).setCell ⟨gg, 1, none⟩ (.int .i64 (atoiV x1.data.toList))).setCell ⟨gg, 2, none⟩ (.int .i64 (ordK f))).setCell ⟨gg, 3, none⟩ (.int .i64 (ordT f x3))).setCell ⟨gg, 4, none⟩ (.int .i64 (ordN f x3 x4)))).cell? ⟨gg, 1, none⟩ = some (.int .i64 (atoiV x1.data.toList)) := by simp [go_sem, a1]
          have v2 : ((((((wd.setCell ⟨gg, 0, none⟩ (.int .i64 (atoiV x0.data.toList))).setCell ⟨gg, 1, none⟩ (.int .i64 (atoiV x1.data.toList))).setCell ⟨gg, 2, none⟩ (.int .i64 (ordK f))).setCell ⟨gg, 3, none⟩ (.int .i64 (ordT f x3))).setCell ⟨gg, 4, none⟩ (.int .i64 (ordN f x3 x4)))).cell? ⟨gg, 2, none⟩ = some (.int .i64 (ordK f)) := by simp [go_sem, a2]
          have v3 : ((((((wd.setCell ⟨gg, 0, none⟩ (.int .i64 (atoiV x0.data.toList))).setCell ⟨gg, 1, none⟩ (.int .i64 (atoiV x1.data.toList))).setCell ⟨gg, 2, none⟩ (.int .i64 (ordK f))).setCell ⟨gg, 3, none⟩ (.int .i64 (ordT f x3))).setCell ⟨gg, 4, none⟩ (.int .i64 (ordN f x3 x4)))).cell? ⟨gg, 3, none⟩ = some (.int .i64 (ordT f x3)) := by simp [go_sem, a3]
          have v4 : ((((((wd.setCell ⟨gg, 0, none⟩ (.int .i64 (atoiV x0.data.toList))).setCell ⟨gg, 1, none⟩ (.int .i64 (atoiV x1.data.toList))).setCell ⟨gg, 2, none⟩ (.int .i64 (ordK f))).setCell ⟨gg, 3, none⟩ (.int .i64 (ordT f x3))).setCell ⟨gg, 4, none⟩ (.int .i64 (ordN f x3 x4)))).cell? ⟨gg, 4, none⟩ = some (.int .i64 (ordN f x3 x4)) := by simp [go_sem, a4]
          have hGS : gg < ((((((wd.setCell ⟨gg, 0, none⟩ (.int .i64 (atoiV x0.data.toList))).setCell ⟨gg, 1, none⟩ (.int .i64 (atoiV x1.data.toList))).setCell ⟨gg, 2, none⟩ (.int .i64 (ordK f))).setCell ⟨gg, 3, none⟩ (.int .i64 (ordT f x3))).setCell ⟨gg, 4, none⟩ (.int .i64 (ordN f x3 x4)))).heap.size := by simpa [World.setCell] using hGlt
          generalize (((((wd.setCell ⟨gg, 0, none⟩ (.int .i64 (atoiV x0.data.toList))).setCell ⟨gg, 1, none⟩ (.int .i64 (atoiV x1.data.toList))).setCell ⟨gg, 2, none⟩ (.int .i64 (ordK f))).setCell ⟨gg, 3, none⟩ (.int .i64 (ordT f x3))).setCell ⟨gg, 4, none⟩ (.int .i64 (ordN f x3 x4))) = W5 at *
          clear a0 a1 a2 a3 a4 b0 b1 b2 b3 b4 hGlt
          generalize gg = GG at *
          go_wp2_with fail
          refine (ordText_impl _ _ _ _ _ _ (HE3.out.on BS).tab).mono ?_
          rintro e w6 ⟨rfl, hb6⟩
          obtain ⟨hc6, hf6⟩ := bcell (bthen (bthen BW3.out BS) hb6)
          have hcv := (bcell hb6).1
          have r0 : w6.cell? ⟨w.heap.size, 0, none⟩ = some (.int .i64 0) := (hc6 _ 0 (by simp)).trans (by simp)
          have s0 : w6.frozen? ⟨w.heap.size, 0, none⟩ = false := (hf6 _ 0 (by simp)).trans (by simp)
          replace v0 := (hcv _ 0 hGS).trans v0
          have r1 : w6.cell? ⟨w.heap.size, 1, none⟩ = some (.int .i64 0) := (hc6 _ 1 (by simp)).trans (by simp)
          have s1 : w6.frozen? ⟨w.heap.size, 1, none⟩ = false := (hf6 _ 1 (by simp)).trans (by simp)
          replace v1 := (hcv _ 1 hGS).trans v1
          have r2 : w6.cell? ⟨w.heap.size, 2, none⟩ = some (.int .i64 0) := (hc6 _ 2 (by simp)).trans (by simp)
          have s2 : w6.frozen? ⟨w.heap.size, 2, none⟩ = false := (hf6 _ 2 (by simp)).trans (by simp)
          replace v2 := (hcv _ 2 hGS).trans v2
          have r3 : w6.cell? ⟨w.heap.size, 3, none⟩ = some (.int .i64 0) := (hc6 _ 3 (by simp)).trans (by simp)
          have s3 : w6.frozen? ⟨w.heap.size, 3, none⟩ = false := (hf6 _ 3 (by simp)).trans (by simp)
          replace v3 := (hcv _ 3 hGS).trans v3
          have r4 : w6.cell? ⟨w.heap.size, 4, none⟩ = some (.int .i64 0) := (hc6 _ 4 (by simp)).trans (by simp)
          have s4 : w6.frozen? ⟨w.heap.size, 4, none⟩ = false := (hf6 _ 4 (by simp)).trans (by simp)
          replace v4 := (hcv _ 4 hGS).trans v4
          have HB6 : Hid (Below w.heap.size w w6) := bthen ((Below.refl _ _).alloc (by simp) _) (bthen (bthen BW3.out BS) hb6)
          obtain ⟨q0, q1, q2, q3, q4⟩ := HQ.out
          clear hc6 hf6 hcv hb6 BS hHeld
          by_cases ht : (ordText (atoiV x0.data.toList) (atoiV x1.data.toList) (ordK f) (ordT f x3) (ordN f x3 x4)).toList = s.toList
          · have ht' : ((ordText (atoiV x0.data.toList) (atoiV x1.data.toList) (ordK f) (ordT f x3) (ordN f x3 x4)).toList == s.toList) = true := by simpa using ht
            have HT : Hid ((ordText (oW s) (oS s) (oK s f) (oT s f) (oN s f)).toList = s.toList) := by unfold Hid; rw [q0, q1, q2, q3, q4]; exact ht
            have HQ2 := HQ
            clear ht q0 q1 q2 q3 q4
            go_wp2
            exact bodyPost_ret (v := .tuple #[.agg #[.int .i64 (atoiV x0.data.toList), .int .i64 (atoiV x1.data.toList), .int .i64 (ordK f), .int .i64 (ordT f x3), .int .i64 (ordN f x3 x4)], .bool true]) (by simp [results, Tryz.results25, go_sem, r0, r1, r2, r3, r4]) rfl ⟨.inl ⟨HT.out, by obtain ⟨q0, q1, q2, q3, q4⟩ := HQ2.out; rw [q0, q1, q2, q3, q4]⟩, by (iterate 5 (refine Below.setCell ?_ (by simp) _)); exact HB6.out⟩
          · have ht' : ((ordText (atoiV x0.data.toList) (atoiV x1.data.toList) (ordK f) (ordT f x3) (ordN f x3 x4)).toList == s.toList) = false := by simpa using ht
            have HT : Hid ((ordText (oW s) (oS s) (oK s f) (oT s f) (oN s f)).toList ≠ s.toList) := by unfold Hid; rw [q0, q1, q2, q3, q4]; exact ht
            clear ht q0 q1 q2 q3 q4
            go_wp2
            exact bodyPost_ret (v := .tuple #[.agg #[.int .i64 0, .int .i64 0, .int .i64 0, .int .i64 0, .int .i64 0], .bool false]) (by simp [results, Tryz.results25, go_sem, r0, r1, r2, r3, r4]) rfl ⟨.inr ⟨HT.out, rfl⟩, by (iterate 5 (refine Below.setCell ?_ (by simp) _)); exact HB6.out⟩
      · skip
        go_simp
        have BA : Below wb.heap.size wb (wb.alloc (.cells #[.int .i64 0, .int .i64 0, .int .i64 0, .int .i64 0, .int .i64 0] 46)) := (Below.refl _ _).alloc (Nat.le_refl _) _
        refine hK.out _ _ (keepS (by assumption) BA) (fun hHeld => ?_)
        clear hK K
        try simp only [Act.put, List.setIfInBounds_toArray, List.set_cons_zero, List.set_cons_succ, List.getElem_toArray, List.getElem_cons_zero, List.getElem_cons_succ]
        have a0 : (wb.alloc (.cells #[.int .i64 0, .int .i64 0, .int .i64 0, .int .i64 0, .int .i64 0] 46)).cell? ⟨wb.heap.size, 0, none⟩ = some (.int .i64 0) := by simp
        have b0 : (wb.alloc (.cells #[.int .i64 0, .int .i64 0, .int .i64 0, .int .i64 0, .int .i64 0] 46)).frozen? ⟨wb.heap.size, 0, none⟩ = false := by simp
        have a1 : (wb.alloc (.cells #[.int .i64 0, .int .i64 0, .int .i64 0, .int .i64 0, .int .i64 0] 46)).cell? ⟨wb.heap.size, 1, none⟩ = some (.int .i64 0) := by simp
        have b1 : (wb.alloc (.cells #[.int .i64 0, .int .i64 0, .int .i64 0, .int .i64 0, .int .i64 0] 46)).frozen? ⟨wb.heap.size, 1, none⟩ = false := by simp
        have a2 : (wb.alloc (.cells #[.int .i64 0, .int .i64 0, .int .i64 0, .int .i64 0, .int .i64 0] 46)).cell? ⟨wb.heap.size, 2, none⟩ = some (.int .i64 0) := by simp
        have b2 : (wb.alloc (.cells #[.int .i64 0, .int .i64 0, .int .i64 0, .int .i64 0, .int .i64 0] 46)).frozen? ⟨wb.heap.size, 2, none⟩ = false := by simp
        have a3 : (wb.alloc (.cells #[.int .i64 0, .int .i64 0, .int .i64 0, .int .i64 0, .int .i64 0] 46)).cell? ⟨wb.heap.size, 3, none⟩ = some (.int .i64 0) := by simp
        have b3 : (wb.alloc (.cells #[.int .i64 0, .int .i64 0, .int .i64 0, .int .i64 0, .int .i64 0] 46)).frozen? ⟨wb.heap.size, 3, none⟩ = false := by simp
        have a4 : (wb.alloc (.cells #[.int .i64 0, .int .i64 0, .int .i64 0, .int .i64 0, .int .i64 0] 46)).cell? ⟨wb.heap.size, 4, none⟩ = some (.int .i64 0) := by simp
        have b4 : (wb.alloc (.cells #[.int .i64 0, .int .i64 0, .int .i64 0, .int .i64 0, .int .i64 0] 46)).frozen? ⟨wb.heap.size, 4, none⟩ = false := by simp
        have hGle : w3.heap.size ≤ wb.heap.size := Bc.size
        have hGlt : wb.heap.size < (wb.alloc (.cells #[.int .i64 0, .int .i64 0, .int .i64 0, .int .i64 0, .int .i64 0] 46)).heap.size := by simp
        replace Bc := bthen Bc BA
        clear BA
        generalize hgg : wb.heap.size = gg at *
        generalize (wb.alloc (.cells #[.int .i64 0, .int .i64 0, .int .i64 0, .int .i64 0, .int .i64 0] 46)) = wz at *
        clear hgg
        refine wpAnyH_ready (rs := [15]) (by kernel_rfl) (by simp) ?_
        refine AllReadyH.cons rfl (fun K hK => ?_) AllReadyH.nil
        go_simp
        go_wp2_with fail
        refine (read_any x2 x3 x4 f HR.out z3 z4 _ (HE3.out.on Bc)).mono ?_
        rintro e wc ⟨rfl, hbwc⟩
        refine hK.out _ _ (keepS (by assumption) hbwc) (fun hHeld => ?_)
        clear hK K
        try simp only [Act.put, List.setIfInBounds_toArray, List.set_cons_zero, List.set_cons_succ, List.getElem_toArray, List.getElem_cons_zero, List.getElem_cons_succ]
        replace Bc := bthen Bc hbwc
        replace a0 := (hbwc.cell (p := ⟨gg, 0, none⟩) hGlt).trans a0
        replace b0 := (hbwc.frozen (p := ⟨gg, 0, none⟩) hGlt).trans b0
        replace a1 := (hbwc.cell (p := ⟨gg, 1, none⟩) hGlt).trans a1
        replace b1 := (hbwc.frozen (p := ⟨gg, 1, none⟩) hGlt).trans b1
        replace a2 := (hbwc.cell (p := ⟨gg, 2, none⟩) hGlt).trans a2
        replace b2 := (hbwc.frozen (p := ⟨gg, 2, none⟩) hGlt).trans b2
        replace a3 := (hbwc.cell (p := ⟨gg, 3, none⟩) hGlt).trans a3
        replace b3 := (hbwc.frozen (p := ⟨gg, 3, none⟩) hGlt).trans b3
        replace a4 := (hbwc.cell (p := ⟨gg, 4, none⟩) hGlt).trans a4
        replace b4 := (hbwc.frozen (p := ⟨gg, 4, none⟩) hGlt).trans b4
        replace hGlt := Nat.lt_of_lt_of_le hGlt hbwc.size
        clear hbwc
        refine wpAnyH_ready (rs := [16]) (by kernel_rfl) (by simp) ?_
        refine AllReadyH.cons rfl (fun K hK => ?_) AllReadyH.nil
        go_simp
        go_wp2_with fail
        refine (order_R x2 x3 x4 f HR.out _ _ _).mono ?_
        rintro e wd ⟨rfl, hbwd⟩
        refine hK.out _ _ (keepS (by assumption) hbwd) (fun hHeld => ?_)
        clear hK K
        try simp only [Act.put, List.setIfInBounds_toArray, List.set_cons_zero, List.set_cons_succ, List.getElem_toArray, List.getElem_cons_zero, List.getElem_cons_succ]
        replace Bc := bthen Bc hbwd
        replace a0 := (hbwd.cell (p := ⟨gg, 0, none⟩) hGlt).trans a0
        replace b0 := (hbwd.frozen (p := ⟨gg, 0, none⟩) hGlt).trans b0
        replace a1 := (hbwd.cell (p := ⟨gg, 1, none⟩) hGlt).trans a1
        replace b1 := (hbwd.frozen (p := ⟨gg, 1, none⟩) hGlt).trans b1
        replace a2 := (hbwd.cell (p := ⟨gg, 2, none⟩) hGlt).trans a2
        replace b2 := (hbwd.frozen (p := ⟨gg, 2, none⟩) hGlt).trans b2
        replace a3 := (hbwd.cell (p := ⟨gg, 3, none⟩) hGlt).trans a3
        replace b3 := (hbwd.frozen (p := ⟨gg, 3, none⟩) hGlt).trans b3
        replace a4 := (hbwd.cell (p := ⟨gg, 4, none⟩) hGlt).trans a4
        replace b4 := (hbwd.frozen (p := ⟨gg, 4, none⟩) hGlt).trans b4
        replace hGlt := Nat.lt_of_lt_of_le hGlt hbwd.size
        clear hbwd
        refine wpAnyH_ready (rs := [18]) (by kernel_rfl) (by simp) ?_
        refine AllReadyH.cons rfl (fun K hK => ?_) AllReadyH.nil
        go_simp
        have BS : Below w3.heap.size w3 (((((wd.setCell ⟨gg, 0, none⟩ (.int .i64 (atoiV x0.data.toList))).setCell ⟨gg, 1, none⟩ (.int .i64 (atoiV x1.data.toList))).setCell ⟨gg, 2, none⟩ (.int .i64 (ordK f))).setCell ⟨gg, 3, none⟩ (.int .i64 (ordT f x3))).setCell ⟨gg, 4, none⟩ (.int .i64 (ordN f x3 x4))) := by
          iterate 5 (refine Below.setCell ?_ hGle _)
          exact Bc
        refine hK.out _ _ ⟨fun b o hb => BS.cell (p := ⟨b, o, none⟩) hb, BS.size⟩ (fun hHeld => ?_)
        clear hK K
        try simp only [Act.put, List.setIfInBounds_toArray, List.set_cons_zero, List.set_cons_succ, List.getElem_toArray, List.getElem_cons_zero, List.getElem_cons_succ]
        refine wpAnyH_done (by kernel_rfl) ?_ _
        have v0 : ((((((wd.setCell ⟨gg, 0, none⟩ (.int .i64 (atoiV x0.data.toList))).setCell ⟨gg, 1, none⟩ (.int .i64 (atoiV x1.data.toList))).setCell ⟨gg, 2, none⟩ (.int .i64 (ordK f))).setCell ⟨gg, 3, none⟩ (.int .i64 (ordT f x3))).setCell ⟨gg, 4, none⟩ (.int .i64 (ordN f x3 x4)))).cell? ⟨gg, 0, none⟩ = some (.int .i64 (atoiV x0.data.toList)) := by simp [go_sem, a0]
        have v1 : ((((((wd.setCell ⟨gg, 0, none⟩ (.int .i64 (atoiV x0.data.toList))).setCell ⟨gg, 1, none⟩ (.int .i64 (atoiV x1.data.toList))).setCell ⟨gg, 2, none⟩ (.int .i64 (ordK f))).setCell ⟨gg, 3, none⟩ (.int .i64 (ordT f x3))).setCell ⟨gg, 4, none⟩ (.int .i64 (ordN f x3 x4)))).cell? ⟨gg, 1, none⟩ = some (.int .i64 (atoiV x1.data.toList)) := by simp [go_sem, a1]
        have v2 : ((((((wd.setCell ⟨gg, 0, none⟩ (.int .i64 (atoiV x0.data.toList))).setCell ⟨gg, 1, none⟩ (.int .i64 (atoiV x1.data.toList))).setCell ⟨gg, 2, none⟩ (.int .i64 (ordK f))).setCell ⟨gg, 3, none⟩ (.int .i64 (ordT f x3))).setCell ⟨gg, 4, none⟩ (.int .i64 (ordN f x3 x4)))).cell? ⟨gg, 2, none⟩ = some (.int .i64 (ordK f)) := by simp [go_sem, a2]
        have v3 : ((((((wd.setCell ⟨gg, 0, none⟩ (.int .i64 (atoiV x0.data.toList))).setCell ⟨gg, 1, none⟩ (.int .i64 (atoiV x1.data.toList))).setCell ⟨gg, 2, none⟩ (.int .i64 (ordK f))).setCell ⟨gg, 3, none⟩ (.int .i64 (ordT f x3))).setCell ⟨gg, 4, none⟩ (.int .i64 (ordN f x3 x4)))).cell? ⟨gg, 3, none⟩ = some (.int .i64 (ordT f x3)) := by simp [go_sem, a3]
        have v4 : ((((((wd.setCell ⟨gg, 0, none⟩ (.int .i64 (atoiV x0.data.toList))).setCell ⟨gg, 1, none⟩ (.int .i64 (atoiV x1.data.toList))).setCell ⟨gg, 2, none⟩ (.int .i64 (ordK f))).setCell ⟨gg, 3, none⟩ (.int .i64 (ordT f x3))).setCell ⟨gg, 4, none⟩ (.int .i64 (ordN f x3 x4)))).cell? ⟨gg, 4, none⟩ = some (.int .i64 (ordN f x3 x4)) := by simp [go_sem, a4]
        have hGS : gg < ((((((wd.setCell ⟨gg, 0, none⟩ (.int .i64 (atoiV x0.data.toList))).setCell ⟨gg, 1, none⟩ (.int .i64 (atoiV x1.data.toList))).setCell ⟨gg, 2, none⟩ (.int .i64 (ordK f))).setCell ⟨gg, 3, none⟩ (.int .i64 (ordT f x3))).setCell ⟨gg, 4, none⟩ (.int .i64 (ordN f x3 x4)))).heap.size := by simpa [World.setCell] using hGlt
        generalize (((((wd.setCell ⟨gg, 0, none⟩ (.int .i64 (atoiV x0.data.toList))).setCell ⟨gg, 1, none⟩ (.int .i64 (atoiV x1.data.toList))).setCell ⟨gg, 2, none⟩ (.int .i64 (ordK f))).setCell ⟨gg, 3, none⟩ (.int .i64 (ordT f x3))).setCell ⟨gg, 4, none⟩ (.int .i64 (ordN f x3 x4))) = W5 at *
        clear a0 a1 a2 a3 a4 b0 b1 b2 b3 b4 hGlt
        generalize gg = GG at *
        go_wp2_with fail
        refine (ordText_impl _ _ _ _ _ _ (HE3.out.on BS).tab).mono ?_
        rintro e w6 ⟨rfl, hb6⟩
        obtain ⟨hc6, hf6⟩ := bcell (bthen (bthen BW3.out BS) hb6)
        have hcv := (bcell hb6).1
        have r0 : w6.cell? ⟨w.heap.size, 0, none⟩ = some (.int .i64 0) := (hc6 _ 0 (by simp)).trans (by simp)
        have s0 : w6.frozen? ⟨w.heap.size, 0, none⟩ = false := (hf6 _ 0 (by simp)).trans (by simp)
        replace v0 := (hcv _ 0 hGS).trans v0
        have r1 : w6.cell? ⟨w.heap.size, 1, none⟩ = some (.int .i64 0) := (hc6 _ 1 (by simp)).trans (by simp)
        have s1 : w6.frozen? ⟨w.heap.size, 1, none⟩ = false := (hf6 _ 1 (by simp)).trans (by simp)
        replace v1 := (hcv _ 1 hGS).trans v1
        have r2 : w6.cell? ⟨w.heap.size, 2, none⟩ = some (.int .i64 0) := (hc6 _ 2 (by simp)).trans (by simp)
        have s2 : w6.frozen? ⟨w.heap.size, 2, none⟩ = false := (hf6 _ 2 (by simp)).trans (by simp)
        replace v2 := (hcv _ 2 hGS).trans v2
        have r3 : w6.cell? ⟨w.heap.size, 3, none⟩ = some (.int .i64 0) := (hc6 _ 3 (by simp)).trans (by simp)
        have s3 : w6.frozen? ⟨w.heap.size, 3, none⟩ = false := (hf6 _ 3 (by simp)).trans (by simp)
        replace v3 := (hcv _ 3 hGS).trans v3
        have r4 : w6.cell? ⟨w.heap.size, 4, none⟩ = some (.int .i64 0) := (hc6 _ 4 (by simp)).trans (by simp)
        have s4 : w6.frozen? ⟨w.heap.size, 4, none⟩ = false := (hf6 _ 4 (by simp)).trans (by simp)
        replace v4 := (hcv _ 4 hGS).trans v4
        have HB6 : Hid (Below w.heap.size w w6) := bthen ((Below.refl _ _).alloc (by simp) _) (bthen (bthen BW3.out BS) hb6)
        obtain ⟨q0, q1, q2, q3, q4⟩ := HQ.out
        clear hc6 hf6 hcv hb6 BS hHeld
        by_cases ht : (ordText (atoiV x0.data.toList) (atoiV x1.data.toList) (ordK f) (ordT f x3) (ordN f x3 x4)).toList = s.toList
        · have ht' : ((ordText (atoiV x0.data.toList) (atoiV x1.data.toList) (ordK f) (ordT f x3) (ordN f x3 x4)).toList == s.toList) = true := by simpa using ht
          have HT : Hid ((ordText (oW s) (oS s) (oK s f) (oT s f) (oN s f)).toList = s.toList) := by unfold Hid; rw [q0, q1, q2, q3, q4]; exact ht
          have HQ2 := HQ
          clear ht q0 q1 q2 q3 q4
          go_wp2
          exact bodyPost_ret (v := .tuple #[.agg #[.int .i64 (atoiV x0.data.toList), .int .i64 (atoiV x1.data.toList), .int .i64 (ordK f), .int .i64 (ordT f x3), .int .i64 (ordN f x3 x4)], .bool true]) (by simp [results, Tryz.results25, go_sem, r0, r1, r2, r3, r4]) rfl ⟨.inl ⟨HT.out, by obtain ⟨q0, q1, q2, q3, q4⟩ := HQ2.out; rw [q0, q1, q2, q3, q4]⟩, by (iterate 5 (refine Below.setCell ?_ (by simp) _)); exact HB6.out⟩
        · have ht' : ((ordText (atoiV x0.data.toList) (atoiV x1.data.toList) (ordK f) (ordT f x3) (ordN f x3 x4)).toList == s.toList) = false := by simpa using ht
          have HT : Hid ((ordText (oW s) (oS s) (oK s f) (oT s f) (oN s f)).toList ≠ s.toList) := by unfold Hid; rw [q0, q1, q2, q3, q4]; exact ht
          clear ht q0 q1 q2 q3 q4
          go_wp2
          exact bodyPost_ret (v := .tuple #[.agg #[.int .i64 0, .int .i64 0, .int .i64 0, .int .i64 0, .int .i64 0], .bool false]) (by simp [results, Tryz.results25, go_sem, r0, r1, r2, r3, r4]) rfl ⟨.inr ⟨HT.out, rfl⟩, by (iterate 5 (refine Below.setCell ?_ (by simp) _)); exact HB6.out⟩
    · skip
      go_simp
      have BA : Below wa.heap.size wa (wa.alloc (.cells #[.int .i64 0, .int .i64 0, .int .i64 0, .int .i64 0, .int .i64 0] 46)) := (Below.refl _ _).alloc (Nat.le_refl _) _
      refine hK.out _ _ (keepS (by assumption) BA) (fun hHeld => ?_)
      clear hK K
      try simp only [Act.put, List.setIfInBounds_toArray, List.set_cons_zero, List.set_cons_succ, List.getElem_toArray, List.getElem_cons_zero, List.getElem_cons_succ]
      have a0 : (wa.alloc (.cells #[.int .i64 0, .int .i64 0, .int .i64 0, .int .i64 0, .int .i64 0] 46)).cell? ⟨wa.heap.size, 0, none⟩ = some (.int .i64 0) := by simp
      have b0 : (wa.alloc (.cells #[.int .i64 0, .int .i64 0, .int .i64 0, .int .i64 0, .int .i64 0] 46)).frozen? ⟨wa.heap.size, 0, none⟩ = false := by simp
      have a1 : (wa.alloc (.cells #[.int .i64 0, .int .i64 0, .int .i64 0, .int .i64 0, .int .i64 0] 46)).cell? ⟨wa.heap.size, 1, none⟩ = some (.int .i64 0) := by simp
      have b1 : (wa.alloc (.cells #[.int .i64 0, .int .i64 0, .int .i64 0, .int .i64 0, .int .i64 0] 46)).frozen? ⟨wa.heap.size, 1, none⟩ = false := by simp
      have a2 : (wa.alloc (.cells #[.int .i64 0, .int .i64 0, .int .i64 0, .int .i64 0, .int .i64 0] 46)).cell? ⟨wa.heap.size, 2, none⟩ = some (.int .i64 0) := by simp
      have b2 : (wa.alloc (.cells #[.int .i64 0, .int .i64 0, .int .i64 0, .int .i64 0, .int .i64 0] 46)).frozen? ⟨wa.heap.size, 2, none⟩ = false := by simp
      have a3 : (wa.alloc (.cells #[.int .i64 0, .int .i64 0, .int .i64 0, .int .i64 0, .int .i64 0] 46)).cell? ⟨wa.heap.size, 3, none⟩ = some (.int .i64 0) := by simp
      have b3 : (wa.alloc (.cells #[.int .i64 0, .int .i64 0, .int .i64 0, .int .i64 0, .int .i64 0] 46)).frozen? ⟨wa.heap.size, 3, none⟩ = false := by simp
      have a4 : (wa.alloc (.cells #[.int .i64 0, .int .i64 0, .int .i64 0, .int .i64 0, .int .i64 0] 46)).cell? ⟨wa.heap.size, 4, none⟩ = some (.int .i64 0) := by simp
      have b4 : (wa.alloc (.cells #[.int .i64 0, .int .i64 0, .int .i64 0, .int .i64 0, .int .i64 0] 46)).frozen? ⟨wa.heap.size, 4, none⟩ = false := by simp
      have hGle : w3.heap.size ≤ wa.heap.size := Bc.size
      have hGlt : wa.heap.size < (wa.alloc (.cells #[.int .i64 0, .int .i64 0, .int .i64 0, .int .i64 0, .int .i64 0] 46)).heap.size := by simp
      replace Bc := bthen Bc BA
      clear BA
      generalize hgg : wa.heap.size = gg at *
      generalize (wa.alloc (.cells #[.int .i64 0, .int .i64 0, .int .i64 0, .int .i64 0, .int .i64 0] 46)) = wz at *
      clear hgg
      refine wpAnyH_ready (rs := [7]) (by kernel_rfl) (by simp) ?_
      refine AllReadyH.cons rfl (fun K hK => ?_) AllReadyH.nil
      go_simp
      go_wp2_with fail
      refine (loose x1 z1 _ (HE3.out.on Bc)).mono ?_
      rintro e wb ⟨rfl, hbwb⟩
      refine hK.out _ _ (keepS (by assumption) hbwb) (fun hHeld => ?_)
      clear hK K
      try simp only [Act.put, List.setIfInBounds_toArray, List.set_cons_zero, List.set_cons_succ, List.getElem_toArray, List.getElem_cons_zero, List.getElem_cons_succ]
      replace Bc := bthen Bc hbwb
      replace a0 := (hbwb.cell (p := ⟨gg, 0, none⟩) hGlt).trans a0
      replace b0 := (hbwb.frozen (p := ⟨gg, 0, none⟩) hGlt).trans b0
      replace a1 := (hbwb.cell (p := ⟨gg, 1, none⟩) hGlt).trans a1
      replace b1 := (hbwb.frozen (p := ⟨gg, 1, none⟩) hGlt).trans b1
      replace a2 := (hbwb.cell (p := ⟨gg, 2, none⟩) hGlt).trans a2
      replace b2 := (hbwb.frozen (p := ⟨gg, 2, none⟩) hGlt).trans b2
      replace a3 := (hbwb.cell (p := ⟨gg, 3, none⟩) hGlt).trans a3
      replace b3 := (hbwb.frozen (p := ⟨gg, 3, none⟩) hGlt).trans b3
      replace a4 := (hbwb.cell (p := ⟨gg, 4, none⟩) hGlt).trans a4
      replace b4 := (hbwb.frozen (p := ⟨gg, 4, none⟩) hGlt).trans b4
      replace hGlt := Nat.lt_of_lt_of_le hGlt hbwb.size
      clear hbwb
      refine wpAnyH_ready (rs := [15]) (by kernel_rfl) (by simp) ?_
      refine AllReadyH.cons rfl (fun K hK => ?_) AllReadyH.nil
      go_simp
      go_wp2_with fail
      refine (read_any x2 x3 x4 f HR.out z3 z4 _ (HE3.out.on Bc)).mono ?_
      rintro e wc ⟨rfl, hbwc⟩
      refine hK.out _ _ (keepS (by assumption) hbwc) (fun hHeld => ?_)
      clear hK K
      try simp only [Act.put, List.setIfInBounds_toArray, List.set_cons_zero, List.set_cons_succ, List.getElem_toArray, List.getElem_cons_zero, List.getElem_cons_succ]
      replace Bc := bthen Bc hbwc
      replace a0 := (hbwc.cell (p := ⟨gg, 0, none⟩) hGlt).trans a0
      replace b0 := (hbwc.frozen (p := ⟨gg, 0, none⟩) hGlt).trans b0
      replace a1 := (hbwc.cell (p := ⟨gg, 1, none⟩) hGlt).trans a1
      replace b1 := (hbwc.frozen (p := ⟨gg, 1, none⟩) hGlt).trans b1
      replace a2 := (hbwc.cell (p := ⟨gg, 2, none⟩) hGlt).trans a2
      replace b2 := (hbwc.frozen (p := ⟨gg, 2, none⟩) hGlt).trans b2
      replace a3 := (hbwc.cell (p := ⟨gg, 3, none⟩) hGlt).trans a3
      replace b3 := (hbwc.frozen (p := ⟨gg, 3, none⟩) hGlt).trans b3
      replace a4 := (hbwc.cell (p := ⟨gg, 4, none⟩) hGlt).trans a4
      replace b4 := (hbwc.frozen (p := ⟨gg, 4, none⟩) hGlt).trans b4
      replace hGlt := Nat.lt_of_lt_of_le hGlt hbwc.size
      clear hbwc
      refine wpAnyH_ready (rs := [16]) (by kernel_rfl) (by simp) ?_
      refine AllReadyH.cons rfl (fun K hK => ?_) AllReadyH.nil
      go_simp
      go_wp2_with fail
      refine (order_R x2 x3 x4 f HR.out _ _ _).mono ?_
      rintro e wd ⟨rfl, hbwd⟩
      refine hK.out _ _ (keepS (by assumption) hbwd) (fun hHeld => ?_)
      clear hK K
      try simp only [Act.put, List.setIfInBounds_toArray, List.set_cons_zero, List.set_cons_succ, List.getElem_toArray, List.getElem_cons_zero, List.getElem_cons_succ]
      replace Bc := bthen Bc hbwd
      replace a0 := (hbwd.cell (p := ⟨gg, 0, none⟩) hGlt).trans a0
      replace b0 := (hbwd.frozen (p := ⟨gg, 0, none⟩) hGlt).trans b0
      replace a1 := (hbwd.cell (p := ⟨gg, 1, none⟩) hGlt).trans a1
      replace b1 := (hbwd.frozen (p := ⟨gg, 1, none⟩) hGlt).trans b1
      replace a2 := (hbwd.cell (p := ⟨gg, 2, none⟩) hGlt).trans a2
      replace b2 := (hbwd.frozen (p := ⟨gg, 2, none⟩) hGlt).trans b2
      replace a3 := (hbwd.cell (p := ⟨gg, 3, none⟩) hGlt).trans a3
      replace b3 := (hbwd.frozen (p := ⟨gg, 3, none⟩) hGlt).trans b3
      replace a4 := (hbwd.cell (p := ⟨gg, 4, none⟩) hGlt).trans a4
      replace b4 := (hbwd.frozen (p := ⟨gg, 4, none⟩) hGlt).trans b4
      replace hGlt := Nat.lt_of_lt_of_le hGlt hbwd.size
      clear hbwd
      refine wpAnyH_ready (rs := [18]) (by kernel_rfl) (by simp) ?_
      refine AllReadyH.cons rfl (fun K hK => ?_) AllReadyH.nil
      go_simp
      have BS : Below w3.heap.size w3 (((((wd.setCell ⟨gg, 0, none⟩ (.int .i64 (atoiV x0.data.toList))).setCell ⟨gg, 1, none⟩ (.int .i64 (atoiV x1.data.toList))).setCell ⟨gg, 2, none⟩ (.int .i64 (ordK f))).setCell ⟨gg, 3, none⟩ (.int .i64 (ordT f x3))).setCell ⟨gg, 4, none⟩ (.int .i64 (ordN f x3 x4))) := by
        iterate 5 (refine Below.setCell ?_ hGle _)
        exact Bc
      refine hK.out _ _ ⟨fun b o hb => BS.cell (p := ⟨b, o, none⟩) hb, BS.size⟩ (fun hHeld => ?_)
      clear hK K
      try simp only [Act.put, List.setIfInBounds_toArray, List.set_cons_zero, List.set_cons_succ, List.getElem_toArray, List.getElem_cons_zero, List.getElem_cons_succ]
      refine wpAnyH_done (by kernel_rfl) ?_ _
      have v0 : ((((((wd.setCell ⟨gg, 0, none⟩ (.int .i64 (atoiV x0.data.toList))).setCell ⟨gg, 1, none⟩ (.int .i64 (atoiV x1.data.toList))).setCell ⟨gg, 2, none⟩ (.int .i64 (ordK f))).setCell ⟨gg, 3, none⟩ (.int .i64 (ordT f x3))).setCell ⟨gg, 4, none⟩ (.int .i64 (ordN f x3 x4)))).cell? ⟨gg, 0, none⟩ = some (.int .i64 (atoiV x0.data.toList)) := by simp [go_sem, a0]
      have v1 : ((((((wd.setCell ⟨gg, 0, none⟩ (.int .i64 (atoiV x0.data.toList))).setCell ⟨gg, 1, none⟩ (.int .i64 (atoiV x1.data.toList))).setCell ⟨gg, 2, none⟩ (.int .i64 (ordK f))).setCell ⟨gg, 3, none⟩ (.int .i64 (ordT f x3))).setCell ⟨gg, 4, none⟩ (.int .i64 (ordN f x3 x4)))).cell? ⟨gg, 1, none⟩ = some (.int .i64 (atoiV x1.data.toList)) := by simp [go_sem, a1]
      have v2 : ((((((wd.setCell ⟨gg, 0, none⟩ (.int .i64 (atoiV x0.data.toList))).setCell ⟨gg, 1, none⟩ (.int .i64 (atoiV x1.data.toList))).setCell ⟨gg, 2, none⟩ (.int .i64 (ordK f))).setCell ⟨gg, 3, none⟩ (.int .i64 (ordT f x3))).setCell ⟨gg, 4, none⟩ (.int .i64 (ordN f x3 x4)))).cell? ⟨gg, 2, none⟩ = some (.int .i64 (ordK f)) := by simp [go_sem, a2]
      have v3 : ((((((wd.setCell ⟨gg, 0, none⟩ (.int .i64 (atoiV x0.data.toList))).setCell ⟨gg, 1, none⟩ (.int .i64 (atoiV x1.data.toList))).setCell ⟨gg, 2, none⟩ (.int .i64 (ordK f))).setCell ⟨gg, 3, none⟩ (.int .i64 (ordT f x3))).setCell ⟨gg, 4, none⟩ (.int .i64 (ordN f x3 x4)))).cell? ⟨gg, 3, none⟩ = some (.int .i64 (ordT f x3)) := by simp [go_sem, a3]
      have v4 : ((((((wd.setCell ⟨gg, 0, none⟩ (.int .i64 (atoiV x0.data.toList))).setCell ⟨gg, 1, none⟩ (.int .i64 (atoiV x1.data.toList))).setCell ⟨gg, 2, none⟩ (.int .i64 (ordK f))).setCell ⟨gg, 3, none⟩ (.int .i64 (ordT f x3))).setCell ⟨gg, 4, none⟩ (.int .i64 (ordN f x3 x4)))).cell? ⟨gg, 4, none⟩ = some (.int .i64 (ordN f x3 x4)) := by simp [go_sem, a4]
      have hGS : gg < ((((((wd.setCell ⟨gg, 0, none⟩ (.int .i64 (atoiV x0.data.toList))).setCell ⟨gg, 1, none⟩ (.int .i64 (atoiV x1.data.toList))).setCell ⟨gg, 2, none⟩ (.int .i64 (ordK f))).setCell ⟨gg, 3, none⟩ (.int .i64 (ordT f x3))).setCell ⟨gg, 4, none⟩ (.int .i64 (ordN f x3 x4)))).heap.size := by simpa [World.setCell] using hGlt
      generalize (((((wd.setCell ⟨gg, 0, none⟩ (.int .i64 (atoiV x0.data.toList))).setCell ⟨gg, 1, none⟩ (.int .i64 (atoiV x1.data.toList))).setCell ⟨gg, 2, none⟩ (.int .i64 (ordK f))).setCell ⟨gg, 3, none⟩ (.int .i64 (ordT f x3))).setCell ⟨gg, 4, none⟩ (.int .i64 (ordN f x3 x4))) = W5 at *
      clear a0 a1 a2 a3 a4 b0 b1 b2 b3 b4 hGlt
      generalize gg = GG at *
      go_wp2_with fail
      refine (ordText_impl _ _ _ _ _ _ (HE3.out.on BS).tab).mono ?_
      rintro e w6 ⟨rfl, hb6⟩
      obtain ⟨hc6, hf6⟩ := bcell (bthen (bthen BW3.out BS) hb6)
      have hcv := (bcell hb6).1
      have r0 : w6.cell? ⟨w.heap.size, 0, none⟩ = some (.int .i64 0) := (hc6 _ 0 (by simp)).trans (by simp)
      have s0 : w6.frozen? ⟨w.heap.size, 0, none⟩ = false := (hf6 _ 0 (by simp)).trans (by simp)
      replace v0 := (hcv _ 0 hGS).trans v0
      have r1 : w6.cell? ⟨w.heap.size, 1, none⟩ = some (.int .i64 0) := (hc6 _ 1 (by simp)).trans (by simp)
      have s1 : w6.frozen? ⟨w.heap.size, 1, none⟩ = false := (hf6 _ 1 (by simp)).trans (by simp)
      replace v1 := (hcv _ 1 hGS).trans v1
      have r2 : w6.cell? ⟨w.heap.size, 2, none⟩ = some (.int .i64 0) := (hc6 _ 2 (by simp)).trans (by simp)
      have s2 : w6.frozen? ⟨w.heap.size, 2, none⟩ = false := (hf6 _ 2 (by simp)).trans (by simp)
      replace v2 := (hcv _ 2 hGS).trans v2
      have r3 : w6.cell? ⟨w.heap.size, 3, none⟩ = some (.int .i64 0) := (hc6 _ 3 (by simp)).trans (by simp)
      have s3 : w6.frozen? ⟨w.heap.size, 3, none⟩ = false := (hf6 _ 3 (by simp)).trans (by simp)
      replace v3 := (hcv _ 3 hGS).trans v3
      have r4 : w6.cell? ⟨w.heap.size, 4, none⟩ = some (.int .i64 0) := (hc6 _ 4 (by simp)).trans (by simp)
      have s4 : w6.frozen? ⟨w.heap.size, 4, none⟩ = false := (hf6 _ 4 (by simp)).trans (by simp)
      replace v4 := (hcv _ 4 hGS).trans v4
      have HB6 : Hid (Below w.heap.size w w6) := bthen ((Below.refl _ _).alloc (by simp) _) (bthen (bthen BW3.out BS) hb6)
      obtain ⟨q0, q1, q2, q3, q4⟩ := HQ.out
      clear hc6 hf6 hcv hb6 BS hHeld
      by_cases ht : (ordText (atoiV x0.data.toList) (atoiV x1.data.toList) (ordK f) (ordT f x3) (ordN f x3 x4)).toList = s.toList
      · have ht' : ((ordText (atoiV x0.data.toList) (atoiV x1.data.toList) (ordK f) (ordT f x3) (ordN f x3 x4)).toList == s.toList) = true := by simpa using ht
        have HT : Hid ((ordText (oW s) (oS s) (oK s f) (oT s f) (oN s f)).toList = s.toList) := by unfold Hid; rw [q0, q1, q2, q3, q4]; exact ht
        have HQ2 := HQ
        clear ht q0 q1 q2 q3 q4
        go_wp2
        exact bodyPost_ret (v := .tuple #[.agg #[.int .i64 (atoiV x0.data.toList), .int .i64 (atoiV x1.data.toList), .int .i64 (ordK f), .int .i64 (ordT f x3), .int .i64 (ordN f x3 x4)], .bool true]) (by simp [results, Tryz.results25, go_sem, r0, r1, r2, r3, r4]) rfl ⟨.inl ⟨HT.out, by obtain ⟨q0, q1, q2, q3, q4⟩ := HQ2.out; rw [q0, q1, q2, q3, q4]⟩, by (iterate 5 (refine Below.setCell ?_ (by simp) _)); exact HB6.out⟩
      · have ht' : ((ordText (atoiV x0.data.toList) (atoiV x1.data.toList) (ordK f) (ordT f x3) (ordN f x3 x4)).toList == s.toList) = false := by simpa using ht
        have HT : Hid ((ordText (oW s) (oS s) (oK s f) (oT s f) (oN s f)).toList ≠ s.toList) := by unfold Hid; rw [q0, q1, q2, q3, q4]; exact ht
        clear ht q0 q1 q2 q3 q4
        go_wp2
        exact bodyPost_ret (v := .tuple #[.agg #[.int .i64 0, .int .i64 0, .int .i64 0, .int .i64 0, .int .i64 0], .bool false]) (by simp [results, Tryz.results25, go_sem, r0, r1, r2, r3, r4]) rfl ⟨.inr ⟨HT.out, rfl⟩, by (iterate 5 (refine Below.setCell ?_ (by simp) _)); exact HB6.out⟩
  · skip
    go_simp
    have BA : Below wy.heap.size wy (wy.alloc (.cells #[.int .i64 0, .int .i64 0, .int .i64 0, .int .i64 0, .int .i64 0] 46)) := (Below.refl _ _).alloc (Nat.le_refl _) _
    refine hK.out _ _ (keepS (by assumption) BA) (fun hHeld => ?_)
    clear hK K
    try simp only [Act.put, List.setIfInBounds_toArray, List.set_cons_zero, List.set_cons_succ, List.getElem_toArray, List.getElem_cons_zero, List.getElem_cons_succ]
    have a0 : (wy.alloc (.cells #[.int .i64 0, .int .i64 0, .int .i64 0, .int .i64 0, .int .i64 0] 46)).cell? ⟨wy.heap.size, 0, none⟩ = some (.int .i64 0) := by simp
    have b0 : (wy.alloc (.cells #[.int .i64 0, .int .i64 0, .int .i64 0, .int .i64 0, .int .i64 0] 46)).frozen? ⟨wy.heap.size, 0, none⟩ = false := by simp
    have a1 : (wy.alloc (.cells #[.int .i64 0, .int .i64 0, .int .i64 0, .int .i64 0, .int .i64 0] 46)).cell? ⟨wy.heap.size, 1, none⟩ = some (.int .i64 0) := by simp
    have b1 : (wy.alloc (.cells #[.int .i64 0, .int .i64 0, .int .i64 0, .int .i64 0, .int .i64 0] 46)).frozen? ⟨wy.heap.size, 1, none⟩ = false := by simp
    have a2 : (wy.alloc (.cells #[.int .i64 0, .int .i64 0, .int .i64 0, .int .i64 0, .int .i64 0] 46)).cell? ⟨wy.heap.size, 2, none⟩ = some (.int .i64 0) := by simp
    have b2 : (wy.alloc (.cells #[.int .i64 0, .int .i64 0, .int .i64 0, .int .i64 0, .int .i64 0] 46)).frozen? ⟨wy.heap.size, 2, none⟩ = false := by simp
    have a3 : (wy.alloc (.cells #[.int .i64 0, .int .i64 0, .int .i64 0, .int .i64 0, .int .i64 0] 46)).cell? ⟨wy.heap.size, 3, none⟩ = some (.int .i64 0) := by simp
    have b3 : (wy.alloc (.cells #[.int .i64 0, .int .i64 0, .int .i64 0, .int .i64 0, .int .i64 0] 46)).frozen? ⟨wy.heap.size, 3, none⟩ = false := by simp
    have a4 : (wy.alloc (.cells #[.int .i64 0, .int .i64 0, .int .i64 0, .int .i64 0, .int .i64 0] 46)).cell? ⟨wy.heap.size, 4, none⟩ = some (.int .i64 0) := by simp
    have b4 : (wy.alloc (.cells #[.int .i64 0, .int .i64 0, .int .i64 0, .int .i64 0, .int .i64 0] 46)).frozen? ⟨wy.heap.size, 4, none⟩ = false := by simp
    have hGle : w3.heap.size ≤ wy.heap.size := Bc.size
    have hGlt : wy.heap.size < (wy.alloc (.cells #[.int .i64 0, .int .i64 0, .int .i64 0, .int .i64 0, .int .i64 0] 46)).heap.size := by simp
    replace Bc := bthen Bc BA
    clear BA
    generalize hgg : wy.heap.size = gg at *
    generalize (wy.alloc (.cells #[.int .i64 0, .int .i64 0, .int .i64 0, .int .i64 0, .int .i64 0] 46)) = wz at *
    clear hgg
    refine wpAnyH_ready (rs := [3]) (by kernel_rfl) (by simp) ?_
    refine AllReadyH.cons rfl (fun K hK => ?_) AllReadyH.nil
    go_simp
    go_wp2_with fail
    refine (loose x0 z0 _ (HE3.out.on Bc)).mono ?_
    rintro e wa ⟨rfl, hbwa⟩
    refine hK.out _ _ (keepS (by assumption) hbwa) (fun hHeld => ?_)
    clear hK K
    try simp only [Act.put, List.setIfInBounds_toArray, List.set_cons_zero, List.set_cons_succ, List.getElem_toArray, List.getElem_cons_zero, List.getElem_cons_succ]
    replace Bc := bthen Bc hbwa
    replace a0 := (hbwa.cell (p := ⟨gg, 0, none⟩) hGlt).trans a0
    replace b0 := (hbwa.frozen (p := ⟨gg, 0, none⟩) hGlt).trans b0
    replace a1 := (hbwa.cell (p := ⟨gg, 1, none⟩) hGlt).trans a1
    replace b1 := (hbwa.frozen (p := ⟨gg, 1, none⟩) hGlt).trans b1
    replace a2 := (hbwa.cell (p := ⟨gg, 2, none⟩) hGlt).trans a2
    replace b2 := (hbwa.frozen (p := ⟨gg, 2, none⟩) hGlt).trans b2
    replace a3 := (hbwa.cell (p := ⟨gg, 3, none⟩) hGlt).trans a3
    replace b3 := (hbwa.frozen (p := ⟨gg, 3, none⟩) hGlt).trans b3
    replace a4 := (hbwa.cell (p := ⟨gg, 4, none⟩) hGlt).trans a4
    replace b4 := (hbwa.frozen (p := ⟨gg, 4, none⟩) hGlt).trans b4
    replace hGlt := Nat.lt_of_lt_of_le hGlt hbwa.size
    clear hbwa
    refine wpAnyH_ready (rs := [7]) (by kernel_rfl) (by simp) ?_
    refine AllReadyH.cons rfl (fun K hK => ?_) AllReadyH.nil
    go_simp
    go_wp2_with fail
    refine (loose x1 z1 _ (HE3.out.on Bc)).mono ?_
    rintro e wb ⟨rfl, hbwb⟩
    refine hK.out _ _ (keepS (by assumption) hbwb) (fun hHeld => ?_)
    clear hK K
    try simp only [Act.put, List.setIfInBounds_toArray, List.set_cons_zero, List.set_cons_succ, List.getElem_toArray, List.getElem_cons_zero, List.getElem_cons_succ]
    replace Bc := bthen Bc hbwb
    replace a0 := (hbwb.cell (p := ⟨gg, 0, none⟩) hGlt).trans a0
    replace b0 := (hbwb.frozen (p := ⟨gg, 0, none⟩) hGlt).trans b0
    replace a1 := (hbwb.cell (p := ⟨gg, 1, none⟩) hGlt).trans a1
    replace b1 := (hbwb.frozen (p := ⟨gg, 1, none⟩) hGlt).trans b1
    replace a2 := (hbwb.cell (p := ⟨gg, 2, none⟩) hGlt).trans a2
    replace b2 := (hbwb.frozen (p := ⟨gg, 2, none⟩) hGlt).trans b2
    replace a3 := (hbwb.cell (p := ⟨gg, 3, none⟩) hGlt).trans a3
    replace b3 := (hbwb.frozen (p := ⟨gg, 3, none⟩) hGlt).trans b3
    replace a4 := (hbwb.cell (p := ⟨gg, 4, none⟩) hGlt).trans a4
    replace b4 := (hbwb.frozen (p := ⟨gg, 4, none⟩) hGlt).trans b4
    replace hGlt := Nat.lt_of_lt_of_le hGlt hbwb.size
    clear hbwb
    refine wpAnyH_ready (rs := [15]) (by kernel_rfl) (by simp) ?_
    refine AllReadyH.cons rfl (fun K hK => ?_) AllReadyH.nil
    go_simp
    go_wp2_with fail
    refine (read_any x2 x3 x4 f HR.out z3 z4 _ (HE3.out.on Bc)).mono ?_
    rintro e wc ⟨rfl, hbwc⟩
    refine hK.out _ _ (keepS (by assumption) hbwc) (fun hHeld => ?_)
    clear hK K
    try simp only [Act.put, List.setIfInBounds_toArray, List.set_cons_zero, List.set_cons_succ, List.getElem_toArray, List.getElem_cons_zero, List.getElem_cons_succ]
    replace Bc := bthen Bc hbwc
    replace a0 := (hbwc.cell (p := ⟨gg, 0, none⟩) hGlt).trans a0
    replace b0 := (hbwc.frozen (p := ⟨gg, 0, none⟩) hGlt).trans b0
    replace a1 := (hbwc.cell (p := ⟨gg, 1, none⟩) hGlt).trans a1
    replace b1 := (hbwc.frozen (p := ⟨gg, 1, none⟩) hGlt).trans b1
    replace a2 := (hbwc.cell (p := ⟨gg, 2, none⟩) hGlt).trans a2
    replace b2 := (hbwc.frozen (p := ⟨gg, 2, none⟩) hGlt).trans b2
    replace a3 := (hbwc.cell (p := ⟨gg, 3, none⟩) hGlt).trans a3
    replace b3 := (hbwc.frozen (p := ⟨gg, 3, none⟩) hGlt).trans b3
    replace a4 := (hbwc.cell (p := ⟨gg, 4, none⟩) hGlt).trans a4
    replace b4 := (hbwc.frozen (p := ⟨gg, 4, none⟩) hGlt).trans b4
    replace hGlt := Nat.lt_of_lt_of_le hGlt hbwc.size
    clear hbwc
    refine wpAnyH_ready (rs := [16]) (by kernel_rfl) (by simp) ?_
    refine AllReadyH.cons rfl (fun K hK => ?_) AllReadyH.nil
    go_simp
    go_wp2_with fail
    refine (order_R x2 x3 x4 f HR.out _ _ _).mono ?_
    rintro e wd ⟨rfl, hbwd⟩
    refine hK.out _ _ (keepS (by assumption) hbwd) (fun hHeld => ?_)
    clear hK K
    try simp only [Act.put, List.setIfInBounds_toArray, List.set_cons_zero, List.set_cons_succ, List.getElem_toArray, List.getElem_cons_zero, List.getElem_cons_succ]
    replace Bc := bthen Bc hbwd
    replace a0 := (hbwd.cell (p := ⟨gg, 0, none⟩) hGlt).trans a0
    replace b0 := (hbwd.frozen (p := ⟨gg, 0, none⟩) hGlt).trans b0
    replace a1 := (hbwd.cell (p := ⟨gg, 1, none⟩) hGlt).trans a1
    replace b1 := (hbwd.frozen (p := ⟨gg, 1, none⟩) hGlt).trans b1
    replace a2 := (hbwd.cell (p := ⟨gg, 2, none⟩) hGlt).trans a2
    replace b2 := (hbwd.frozen (p := ⟨gg, 2, none⟩) hGlt).trans b2
    replace a3 := (hbwd.cell (p := ⟨gg, 3, none⟩) hGlt).trans a3
    replace b3 := (hbwd.frozen (p := ⟨gg, 3, none⟩) hGlt).trans b3
    replace a4 := (hbwd.cell (p := ⟨gg, 4, none⟩) hGlt).trans a4
    replace b4 := (hbwd.frozen (p := ⟨gg, 4, none⟩) hGlt).trans b4
    replace hGlt := Nat.lt_of_lt_of_le hGlt hbwd.size
    clear hbwd
    refine wpAnyH_ready (rs := [18]) (by kernel_rfl) (by simp) ?_
    refine AllReadyH.cons rfl (fun K hK => ?_) AllReadyH.nil
    go_simp
    have BS : Below w3.heap.size w3 (((((wd.setCell ⟨gg, 0, none⟩ (.int .i64 (atoiV x0.data.toList))).setCell ⟨gg, 1, none⟩ (.int .i64 (atoiV x1.data.toList))).setCell ⟨gg, 2, none⟩ (.int .i64 (ordK f))).setCell ⟨gg, 3, none⟩ (.int .i64 (ordT f x3))).setCell ⟨gg, 4, none⟩ (.int .i64 (ordN f x3 x4))) := by
      iterate 5 (refine Below.setCell ?_ hGle _)
      exact Bc
    refine hK.out _ _ ⟨fun b o hb => BS.cell (p := ⟨b, o, none⟩) hb, BS.size⟩ (fun hHeld => ?_)
    clear hK K
    try simp only [Act.put, List.setIfInBounds_toArray, List.set_cons_zero, List.set_cons_succ, List.getElem_toArray, List.getElem_cons_zero, List.getElem_cons_succ]
    refine wpAnyH_done (by kernel_rfl) ?_ _
    have v0 : ((((((wd.setCell ⟨gg, 0, none⟩ (.int .i64 (atoiV x0.data.toList))).setCell ⟨gg, 1, none⟩ (.int .i64 (atoiV x1.data.toList))).setCell ⟨gg, 2, none⟩ (.int .i64 (ordK f))).setCell ⟨gg, 3, none⟩ (.int .i64 (ordT f x3))).setCell ⟨gg, 4, none⟩ (.int .i64 (ordN f x3 x4)))).cell? ⟨gg, 0, none⟩ = some (.int .i64 (atoiV x0.data.toList)) := by simp [go_sem, a0]
    have v1 : ((((((wd.setCell ⟨gg, 0, none⟩ (.int .i64 (atoiV x0.data.toList))).setCell ⟨gg, 1, none⟩ (.int .i64 (atoiV x1.data.toList))).setCell ⟨gg, 2, none⟩ (.int .i64 (ordK f))).setCell ⟨gg, 3, none⟩ (.int .i64 (ordT f x3))).setCell ⟨gg, 4, none⟩ (.int .i64 (ordN f x3 x4)))).cell? ⟨gg, 1, none⟩ = some (.int .i64 (atoiV x1.data.toList)) := by simp [go_sem, a1]
    have v2 : ((((((wd.setCell ⟨gg, 0, none⟩ (.int .i64 (atoiV x0.data.toList))).setCell ⟨gg, 1, none⟩ (.int .i64 (atoiV x1.data.toList))).setCell ⟨gg, 2, none⟩ (.int .i64 (ordK f))).setCell ⟨gg, 3, none⟩ (.int .i64 (ordT f x3))).setCell ⟨gg, 4, none⟩ (.int .i64 (ordN f x3 x4)))).cell? ⟨gg, 2, none⟩ = some (.int .i64 (ordK f)) := by simp [go_sem, a2]
    have v3 : ((((((wd.setCell ⟨gg, 0, none⟩ (.int .i64 (atoiV x0.data.toList))).setCell ⟨gg, 1, none⟩ (.int .i64 (atoiV x1.data.toList))).setCell ⟨gg, 2, none⟩ (.int .i64 (ordK f))).setCell ⟨gg, 3, none⟩ (.int .i64 (ordT f x3))).setCell ⟨gg, 4, none⟩ (.int .i64 (ordN f x3 x4)))).cell? ⟨gg, 3, none⟩ = some (.int .i64 (ordT f x3)) := by simp [go_sem, a3]
    have v4 : ((((((wd.setCell ⟨gg, 0, none⟩ (.int .i64 (atoiV x0.data.toList))).setCell ⟨gg, 1, none⟩ (.int .i64 (atoiV x1.data.toList))).setCell ⟨gg, 2, none⟩ (.int .i64 (ordK f))).setCell ⟨gg, 3, none⟩ (.int .i64 (ordT f x3))).setCell ⟨gg, 4, none⟩ (.int .i64 (ordN f x3 x4)))).cell? ⟨gg, 4, none⟩ = some (.int .i64 (ordN f x3 x4)) := by simp [go_sem, a4]
    have hGS : gg < ((((((wd.setCell ⟨gg, 0, none⟩ (.int .i64 (atoiV x0.data.toList))).setCell ⟨gg, 1, none⟩ (.int .i64 (atoiV x1.data.toList))).setCell ⟨gg, 2, none⟩ (.int .i64 (ordK f))).setCell ⟨gg, 3, none⟩ (.int .i64 (ordT f x3))).setCell ⟨gg, 4, none⟩ (.int .i64 (ordN f x3 x4)))).heap.size := by simpa [World.setCell] using hGlt
    generalize (((((wd.setCell ⟨gg, 0, none⟩ (.int .i64 (atoiV x0.data.toList))).setCell ⟨gg, 1, none⟩ (.int .i64 (atoiV x1.data.toList))).setCell ⟨gg, 2, none⟩ (.int .i64 (ordK f))).setCell ⟨gg, 3, none⟩ (.int .i64 (ordT f x3))).setCell ⟨gg, 4, none⟩ (.int .i64 (ordN f x3 x4))) = W5 at *
    clear a0 a1 a2 a3 a4 b0 b1 b2 b3 b4 hGlt
    generalize gg = GG at *
    go_wp2_with fail
    refine (ordText_impl _ _ _ _ _ _ (HE3.out.on BS).tab).mono ?_
    rintro e w6 ⟨rfl, hb6⟩
    obtain ⟨hc6, hf6⟩ := bcell (bthen (bthen BW3.out BS) hb6)
    have hcv := (bcell hb6).1
    have r0 : w6.cell? ⟨w.heap.size, 0, none⟩ = some (.int .i64 0) := (hc6 _ 0 (by simp)).trans (by simp)
    have s0 : w6.frozen? ⟨w.heap.size, 0, none⟩ = false := (hf6 _ 0 (by simp)).trans (by simp)
    replace v0 := (hcv _ 0 hGS).trans v0
    have r1 : w6.cell? ⟨w.heap.size, 1, none⟩ = some (.int .i64 0) := (hc6 _ 1 (by simp)).trans (by simp)
    have s1 : w6.frozen? ⟨w.heap.size, 1, none⟩ = false := (hf6 _ 1 (by simp)).trans (by simp)
    replace v1 := (hcv _ 1 hGS).trans v1
    have r2 : w6.cell? ⟨w.heap.size, 2, none⟩ = some (.int .i64 0) := (hc6 _ 2 (by simp)).trans (by simp)
    have s2 : w6.frozen? ⟨w.heap.size, 2, none⟩ = false := (hf6 _ 2 (by simp)).trans (by simp)
    replace v2 := (hcv _ 2 hGS).trans v2
    have r3 : w6.cell? ⟨w.heap.size, 3, none⟩ = some (.int .i64 0) := (hc6 _ 3 (by simp)).trans (by simp)
    have s3 : w6.frozen? ⟨w.heap.size, 3, none⟩ = false := (hf6 _ 3 (by simp)).trans (by simp)
    replace v3 := (hcv _ 3 hGS).trans v3
    have r4 : w6.cell? ⟨w.heap.size, 4, none⟩ = some (.int .i64 0) := (hc6 _ 4 (by simp)).trans (by simp)
    have s4 : w6.frozen? ⟨w.heap.size, 4, none⟩ = false := (hf6 _ 4 (by simp)).trans (by simp)
    replace v4 := (hcv _ 4 hGS).trans v4
    have HB6 : Hid (Below w.heap.size w w6) := bthen ((Below.refl _ _).alloc (by simp) _) (bthen (bthen BW3.out BS) hb6)
    obtain ⟨q0, q1, q2, q3, q4⟩ := HQ.out
    clear hc6 hf6 hcv hb6 BS hHeld
    by_cases ht : (ordText (atoiV x0.data.toList) (atoiV x1.data.toList) (ordK f) (ordT f x3) (ordN f x3 x4)).toList = s.toList
    · have ht' : ((ordText (atoiV x0.data.toList) (atoiV x1.data.toList) (ordK f) (ordT f x3) (ordN f x3 x4)).toList == s.toList) = true := by simpa using ht
      have HT : Hid ((ordText (oW s) (oS s) (oK s f) (oT s f) (oN s f)).toList = s.toList) := by unfold Hid; rw [q0, q1, q2, q3, q4]; exact ht
      have HQ2 := HQ
      clear ht q0 q1 q2 q3 q4
      go_wp2
      exact bodyPost_ret (v := .tuple #[.agg #[.int .i64 (atoiV x0.data.toList), .int .i64 (atoiV x1.data.toList), .int .i64 (ordK f), .int .i64 (ordT f x3), .int .i64 (ordN f x3 x4)], .bool true]) (by simp [results, Tryz.results25, go_sem, r0, r1, r2, r3, r4]) rfl ⟨.inl ⟨HT.out, by obtain ⟨q0, q1, q2, q3, q4⟩ := HQ2.out; rw [q0, q1, q2, q3, q4]⟩, by (iterate 5 (refine Below.setCell ?_ (by simp) _)); exact HB6.out⟩
    · have ht' : ((ordText (atoiV x0.data.toList) (atoiV x1.data.toList) (ordK f) (ordT f x3) (ordN f x3 x4)).toList == s.toList) = false := by simpa using ht
      have HT : Hid ((ordText (oW s) (oS s) (oK s f) (oT s f) (oN s f)).toList ≠ s.toList) := by unfold Hid; rw [q0, q1, q2, q3, q4]; exact ht
      clear ht q0 q1 q2 q3 q4
      go_wp2
      exact bodyPost_ret (v := .tuple #[.agg #[.int .i64 0, .int .i64 0, .int .i64 0, .int .i64 0, .int .i64 0], .bool false]) (by simp [results, Tryz.results25, go_sem, r0, r1, r2, r3, r4]) rfl ⟨.inr ⟨HT.out, rfl⟩, by (iterate 5 (refine Below.setCell ?_ (by simp) _)); exact HB6.out⟩
end Go.Proofs.YtalmnogdplhflaaGreatDoor
namespace Go.Proofs.YtalmnogdplhflaaGreatDoor
open Go.RowKit
set_option linter.unusedVariables false
set_option maxRecDepth 20000
/-- A block of five noughts, none of them frozen. -/
def FiveZ (W : World) (g : Nat) : Prop := g < W.heap.size ∧ ∀ j, j < 5 → W.cell? ⟨g, j, none⟩ = some (.int .i64 0) ∧ W.frozen? ⟨g, j, none⟩ = false
theorem FiveZ.new (W : World) : FiveZ (W.alloc (.cells #[.int .i64 0, .int .i64 0, .int .i64 0, .int .i64 0, .int .i64 0] 46)) W.heap.size := by
  refine ⟨by simp, fun j hj => ?_⟩
  match j, hj with
  | 0, _ => simp
  | 1, _ => simp
  | 2, _ => simp
  | 3, _ => simp
  | 4, _ => simp
theorem FiveZ.all {W : World} {g : Nat} (h : FiveZ W g) : W.cell? ⟨g, 0, none⟩ = some (.int .i64 0) ∧ W.cell? ⟨g, 1, none⟩ = some (.int .i64 0) ∧ W.cell? ⟨g, 2, none⟩ = some (.int .i64 0) ∧ W.cell? ⟨g, 3, none⟩ = some (.int .i64 0) ∧ W.cell? ⟨g, 4, none⟩ = some (.int .i64 0) ∧ W.frozen? ⟨g, 0, none⟩ = false ∧ W.frozen? ⟨g, 1, none⟩ = false ∧ W.frozen? ⟨g, 2, none⟩ = false ∧ W.frozen? ⟨g, 3, none⟩ = false ∧ W.frozen? ⟨g, 4, none⟩ = false :=
  ⟨(h.2 0 (by omega)).1, (h.2 1 (by omega)).1, (h.2 2 (by omega)).1, (h.2 3 (by omega)).1, (h.2 4 (by omega)).1, (h.2 0 (by omega)).2, (h.2 1 (by omega)).2, (h.2 2 (by omega)).2, (h.2 3 (by omega)).2, (h.2 4 (by omega)).2⟩
end Go.Proofs.YtalmnogdplhflaaGreatDoor
namespace Go.Proofs.YtalmnogdplhflaaGreatDoor
open Go.RowKit
set_option linter.unusedVariables false
theorem left_eq (x : ByteArray) : (x.toList == [108, 101, 102, 116]) = decide (x = wordOf 0) := by
  rw [← list_eq]
  congr 1
  decide +kernel
theorem right_eq (x : ByteArray) : (x.toList == [114, 105, 103, 104, 116]) = decide (x = wordOf 1) := by
  rw [← list_eq]
  congr 1
  decide +kernel
theorem where_none (a : Option Addr) (n cap k : Nat) (h : (n : Int) ≤ (k : Int)) (hk : k ≤ 100) (w : World) :
    Calls Tryz.prog 62 #[.slice a n cap, .int .i64 k] w fun e w' => e = .returned (.int .i64 (-1)) ∧ w' = w := by
  go_enter Tryz.func62, Tryz.ntmps62
  go_wp2
  go_ret
  exact ⟨rfl, rfl⟩
theorem where_some (g n cap k : Nat) (h : (k : Int) < (n : Int)) (hn : n ≤ 1000) (x : ByteArray) (w : World) (hc : w.cell? ⟨g, k, none⟩ = some (.string x)) :
    Calls Tryz.prog 62 #[.slice (some ⟨g, 0, none⟩) n cap, .int .i64 k] w fun e w' => e = .returned (.int .i64 (sideF x)) ∧ w' = w := by
  have h0 := left_eq x
  have h1 := right_eq x
  go_enter Tryz.func62, Tryz.ntmps62
  go_wp2
  all_goals (go_ret; exact ⟨by simp_all [sideF], rfl⟩)
/-- What the model reads behind the two numbers. -/
def Looked (v : Value) (w : World) (U S : Nat → Int) : Prop := ∀ w' : World, Below w.heap.size w w' → (∀ k : Nat, k ≤ 100 → Calls Tryz.prog 15 #[v, .int .i64 k] w' fun e w'' => e = .returned (.int .i64 (U k)) ∧ w'' = w') ∧ (∀ k : Nat, k ≤ 100 → Calls Tryz.prog 62 #[v, .int .i64 k] w' fun e w'' => e = .returned (.int .i64 (S k)) ∧ w'' = w')
set_option maxHeartbeats 1000000 in
theorem what_step (g n cap : Nat) (h3 : (3 : Int) ≤ (n : Int)) (hn : n ≤ 1000) (who seq : Int) (U S : Nat → Int) (w : World) (hg : g < w.heap.size) (hc : w.cell? ⟨g, 2, none⟩ = some (.string ⟨#[115, 116, 101, 112]⟩)) (hL : Looked (.slice (some ⟨g, 0, none⟩) n cap) w U S) :
    Calls Tryz.prog 41 #[.agg #[.int .i64 who, .int .i64 seq, .int .i64 0, .int .i64 0, .int .i64 0], .slice (some ⟨g, 0, none⟩) n cap] w fun e w' => e = .returned (.agg #[.int .i64 who, .int .i64 seq, .int .i64 1, .int .i64 (S 3), .int .i64 0]) ∧ Below w.heap.size w w' := by
  have BA : Below w.heap.size w ((w.alloc (.cells #[.int .i64 who, .int .i64 seq, .int .i64 0, .int .i64 0, .int .i64 0] 46)).alloc (.cells #[.int .i64 0, .int .i64 0, .int .i64 0, .int .i64 0, .int .i64 0] 46)) := ((Below.refl _ _).alloc (Nat.le_refl _) _).alloc (by simp) _
  have LU : Hid (∀ (k : Int), 0 ≤ k → k ≤ 100 → ∀ w', Below w.heap.size w w' → Calls Tryz.prog 15 #[.slice (some ⟨g, 0, none⟩) n cap, .int .i64 k] w' fun e w'' => e = .returned (.int .i64 (U k.toNat)) ∧ w'' = w') := fun k h0 h1 w' hb => by
    have := (hL w' hb).1 k.toNat (by omega)
    rwa [show ((k.toNat : Nat) : Int) = k by omega] at this
  have LS : Hid (∀ (k : Int), 0 ≤ k → k ≤ 100 → ∀ w', Below w.heap.size w w' → Calls Tryz.prog 62 #[.slice (some ⟨g, 0, none⟩) n cap, .int .i64 k] w' fun e w'' => e = .returned (.int .i64 (S k.toNat)) ∧ w'' = w') := fun k h0 h1 w' hb => by
    have := (hL w' hb).2 k.toNat (by omega)
    rwa [show ((k.toNat : Nat) : Int) = k by omega] at this
  clear hL
  go_enter Tryz.func41, Tryz.ntmps41
  go_wp2_with fail
  go_region_held3 (fun w' => (∀ b o, b < w.heap.size + 1 → w'.cell? ⟨b, o, none⟩ = (w.alloc (.cells #[.int .i64 who, .int .i64 seq, .int .i64 0, .int .i64 0, .int .i64 0] 46)).cell? ⟨b, o, none⟩) ∧ w.heap.size + 2 ≤ w'.heap.size) (first | assumption | (refine ⟨fun b o hb => ?_, by simp⟩; exact ((Below.refl _ _).alloc (Nat.le_refl _) _ : Below (w.alloc (.cells #[.int .i64 who, .int .i64 seq, .int .i64 0, .int .i64 0, .int .i64 0] 46)).heap.size (w.alloc (.cells #[.int .i64 who, .int .i64 seq, .int .i64 0, .int .i64 0, .int .i64 0] 46)) (World.alloc _ _)).cell (p := ⟨b, o, none⟩) (by simpa using hb))) (first | (go_at_call 62; refine (LS.out _ (by omega) (by omega) _ (by repeat (first | exact BA | exact Below.refl _ _ | apply Below.drew | apply bdrewN))).mono ?_; rintro e w' ⟨rfl, hw'⟩; subst hw'))
  go_wp2
  exact bodyPost_ret (v := .agg #[.int .i64 who, .int .i64 seq, .int .i64 1, .int .i64 (S 3), .int .i64 0]) (by simp [results, Tryz.results41, go_sem]) rfl ⟨rfl, (((Below.refl _ _).alloc (Nat.le_refl _) _).alloc (by simp) _).drew⟩
set_option maxHeartbeats 1000000 in
theorem what_give (g n cap : Nat) (h3 : (3 : Int) ≤ (n : Int)) (hn : n ≤ 1000) (who seq : Int) (U S : Nat → Int) (w : World) (hg : g < w.heap.size) (hc : w.cell? ⟨g, 2, none⟩ = some (.string ⟨#[103, 105, 118, 101]⟩)) (hL : Looked (.slice (some ⟨g, 0, none⟩) n cap) w U S) :
    Calls Tryz.prog 41 #[.agg #[.int .i64 who, .int .i64 seq, .int .i64 0, .int .i64 0, .int .i64 0], .slice (some ⟨g, 0, none⟩) n cap] w fun e w' => e = .returned (.agg #[.int .i64 who, .int .i64 seq, .int .i64 2, .int .i64 (U 3), .int .i64 (U 4)]) ∧ Below w.heap.size w w' := by
  have BA : Below w.heap.size w ((w.alloc (.cells #[.int .i64 who, .int .i64 seq, .int .i64 0, .int .i64 0, .int .i64 0] 46)).alloc (.cells #[.int .i64 0, .int .i64 0, .int .i64 0, .int .i64 0, .int .i64 0] 46)) := ((Below.refl _ _).alloc (Nat.le_refl _) _).alloc (by simp) _
  have LU : Hid (∀ (k : Int), 0 ≤ k → k ≤ 100 → ∀ w', Below w.heap.size w w' → Calls Tryz.prog 15 #[.slice (some ⟨g, 0, none⟩) n cap, .int .i64 k] w' fun e w'' => e = .returned (.int .i64 (U k.toNat)) ∧ w'' = w') := fun k h0 h1 w' hb => by
    have := (hL w' hb).1 k.toNat (by omega)
    rwa [show ((k.toNat : Nat) : Int) = k by omega] at this
  have LS : Hid (∀ (k : Int), 0 ≤ k → k ≤ 100 → ∀ w', Below w.heap.size w w' → Calls Tryz.prog 62 #[.slice (some ⟨g, 0, none⟩) n cap, .int .i64 k] w' fun e w'' => e = .returned (.int .i64 (S k.toNat)) ∧ w'' = w') := fun k h0 h1 w' hb => by
    have := (hL w' hb).2 k.toNat (by omega)
    rwa [show ((k.toNat : Nat) : Int) = k by omega] at this
  clear hL
  go_enter Tryz.func41, Tryz.ntmps41
  go_wp2_with fail
  go_region_held3 (fun w' => (∀ b o, b < w.heap.size + 1 → w'.cell? ⟨b, o, none⟩ = (w.alloc (.cells #[.int .i64 who, .int .i64 seq, .int .i64 0, .int .i64 0, .int .i64 0] 46)).cell? ⟨b, o, none⟩) ∧ w.heap.size + 2 ≤ w'.heap.size) (first | assumption | (refine ⟨fun b o hb => ?_, by simp⟩; exact ((Below.refl _ _).alloc (Nat.le_refl _) _ : Below (w.alloc (.cells #[.int .i64 who, .int .i64 seq, .int .i64 0, .int .i64 0, .int .i64 0] 46)).heap.size (w.alloc (.cells #[.int .i64 who, .int .i64 seq, .int .i64 0, .int .i64 0, .int .i64 0] 46)) (World.alloc _ _)).cell (p := ⟨b, o, none⟩) (by simpa using hb))) (first | (go_at_call 15; refine (LU.out _ (by omega) (by omega) _ (by repeat (first | exact BA | exact Below.refl _ _ | apply Below.drew | apply bdrewN))).mono ?_; rintro e w' ⟨rfl, hw'⟩; subst hw'))
  go_wp2
  exact bodyPost_ret (v := .agg #[.int .i64 who, .int .i64 seq, .int .i64 2, .int .i64 (U 3), .int .i64 (U 4)]) (by simp [results, Tryz.results41, go_sem]) rfl ⟨rfl, (((Below.refl _ _).alloc (Nat.le_refl _) _).alloc (by simp) _).drew⟩
set_option maxHeartbeats 1000000 in
theorem what_drop (g n cap : Nat) (h3 : (3 : Int) ≤ (n : Int)) (hn : n ≤ 1000) (who seq : Int) (U S : Nat → Int) (w : World) (hg : g < w.heap.size) (hc : w.cell? ⟨g, 2, none⟩ = some (.string ⟨#[100, 114, 111, 112]⟩)) (hL : Looked (.slice (some ⟨g, 0, none⟩) n cap) w U S) :
    Calls Tryz.prog 41 #[.agg #[.int .i64 who, .int .i64 seq, .int .i64 0, .int .i64 0, .int .i64 0], .slice (some ⟨g, 0, none⟩) n cap] w fun e w' => e = .returned (.agg #[.int .i64 who, .int .i64 seq, .int .i64 3, .int .i64 0, .int .i64 (U 3)]) ∧ Below w.heap.size w w' := by
  have BA : Below w.heap.size w ((w.alloc (.cells #[.int .i64 who, .int .i64 seq, .int .i64 0, .int .i64 0, .int .i64 0] 46)).alloc (.cells #[.int .i64 0, .int .i64 0, .int .i64 0, .int .i64 0, .int .i64 0] 46)) := ((Below.refl _ _).alloc (Nat.le_refl _) _).alloc (by simp) _
  have LU : Hid (∀ (k : Int), 0 ≤ k → k ≤ 100 → ∀ w', Below w.heap.size w w' → Calls Tryz.prog 15 #[.slice (some ⟨g, 0, none⟩) n cap, .int .i64 k] w' fun e w'' => e = .returned (.int .i64 (U k.toNat)) ∧ w'' = w') := fun k h0 h1 w' hb => by
    have := (hL w' hb).1 k.toNat (by omega)
    rwa [show ((k.toNat : Nat) : Int) = k by omega] at this
  have LS : Hid (∀ (k : Int), 0 ≤ k → k ≤ 100 → ∀ w', Below w.heap.size w w' → Calls Tryz.prog 62 #[.slice (some ⟨g, 0, none⟩) n cap, .int .i64 k] w' fun e w'' => e = .returned (.int .i64 (S k.toNat)) ∧ w'' = w') := fun k h0 h1 w' hb => by
    have := (hL w' hb).2 k.toNat (by omega)
    rwa [show ((k.toNat : Nat) : Int) = k by omega] at this
  clear hL
  go_enter Tryz.func41, Tryz.ntmps41
  go_wp2_with fail
  go_region_held3 (fun w' => (∀ b o, b < w.heap.size + 1 → w'.cell? ⟨b, o, none⟩ = (w.alloc (.cells #[.int .i64 who, .int .i64 seq, .int .i64 0, .int .i64 0, .int .i64 0] 46)).cell? ⟨b, o, none⟩) ∧ w.heap.size + 2 ≤ w'.heap.size) (first | assumption | (refine ⟨fun b o hb => ?_, by simp⟩; exact ((Below.refl _ _).alloc (Nat.le_refl _) _ : Below (w.alloc (.cells #[.int .i64 who, .int .i64 seq, .int .i64 0, .int .i64 0, .int .i64 0] 46)).heap.size (w.alloc (.cells #[.int .i64 who, .int .i64 seq, .int .i64 0, .int .i64 0, .int .i64 0] 46)) (World.alloc _ _)).cell (p := ⟨b, o, none⟩) (by simpa using hb))) (first | (go_at_call 15; refine (LU.out _ (by omega) (by omega) _ (by repeat (first | exact BA | exact Below.refl _ _ | apply Below.drew | apply bdrewN))).mono ?_; rintro e w' ⟨rfl, hw'⟩; subst hw'))
  go_wp2
  exact bodyPost_ret (v := .agg #[.int .i64 who, .int .i64 seq, .int .i64 3, .int .i64 0, .int .i64 (U 3)]) (by simp [results, Tryz.results41, go_sem]) rfl ⟨rfl, (((Below.refl _ _).alloc (Nat.le_refl _) _).alloc (by simp) _).drew⟩
set_option maxHeartbeats 1000000 in
theorem what_pick (g n cap : Nat) (h3 : (3 : Int) ≤ (n : Int)) (hn : n ≤ 1000) (who seq : Int) (U S : Nat → Int) (w : World) (hg : g < w.heap.size) (hc : w.cell? ⟨g, 2, none⟩ = some (.string ⟨#[112, 105, 99, 107]⟩)) (hL : Looked (.slice (some ⟨g, 0, none⟩) n cap) w U S) :
    Calls Tryz.prog 41 #[.agg #[.int .i64 who, .int .i64 seq, .int .i64 0, .int .i64 0, .int .i64 0], .slice (some ⟨g, 0, none⟩) n cap] w fun e w' => e = .returned (.agg #[.int .i64 who, .int .i64 seq, .int .i64 4, .int .i64 0, .int .i64 (U 3)]) ∧ Below w.heap.size w w' := by
  have BA : Below w.heap.size w ((w.alloc (.cells #[.int .i64 who, .int .i64 seq, .int .i64 0, .int .i64 0, .int .i64 0] 46)).alloc (.cells #[.int .i64 0, .int .i64 0, .int .i64 0, .int .i64 0, .int .i64 0] 46)) := ((Below.refl _ _).alloc (Nat.le_refl _) _).alloc (by simp) _
  have LU : Hid (∀ (k : Int), 0 ≤ k → k ≤ 100 → ∀ w', Below w.heap.size w w' → Calls Tryz.prog 15 #[.slice (some ⟨g, 0, none⟩) n cap, .int .i64 k] w' fun e w'' => e = .returned (.int .i64 (U k.toNat)) ∧ w'' = w') := fun k h0 h1 w' hb => by
    have := (hL w' hb).1 k.toNat (by omega)
    rwa [show ((k.toNat : Nat) : Int) = k by omega] at this
  have LS : Hid (∀ (k : Int), 0 ≤ k → k ≤ 100 → ∀ w', Below w.heap.size w w' → Calls Tryz.prog 62 #[.slice (some ⟨g, 0, none⟩) n cap, .int .i64 k] w' fun e w'' => e = .returned (.int .i64 (S k.toNat)) ∧ w'' = w') := fun k h0 h1 w' hb => by
    have := (hL w' hb).2 k.toNat (by omega)
    rwa [show ((k.toNat : Nat) : Int) = k by omega] at this
  clear hL
  go_enter Tryz.func41, Tryz.ntmps41
  go_wp2_with fail
  go_region_held3 (fun w' => (∀ b o, b < w.heap.size + 1 → w'.cell? ⟨b, o, none⟩ = (w.alloc (.cells #[.int .i64 who, .int .i64 seq, .int .i64 0, .int .i64 0, .int .i64 0] 46)).cell? ⟨b, o, none⟩) ∧ w.heap.size + 2 ≤ w'.heap.size) (first | assumption | (refine ⟨fun b o hb => ?_, by simp⟩; exact ((Below.refl _ _).alloc (Nat.le_refl _) _ : Below (w.alloc (.cells #[.int .i64 who, .int .i64 seq, .int .i64 0, .int .i64 0, .int .i64 0] 46)).heap.size (w.alloc (.cells #[.int .i64 who, .int .i64 seq, .int .i64 0, .int .i64 0, .int .i64 0] 46)) (World.alloc _ _)).cell (p := ⟨b, o, none⟩) (by simpa using hb))) (first | (go_at_call 15; refine (LU.out _ (by omega) (by omega) _ (by repeat (first | exact BA | exact Below.refl _ _ | apply Below.drew | apply bdrewN))).mono ?_; rintro e w' ⟨rfl, hw'⟩; subst hw'))
  go_wp2
  exact bodyPost_ret (v := .agg #[.int .i64 who, .int .i64 seq, .int .i64 4, .int .i64 0, .int .i64 (U 3)]) (by simp [results, Tryz.results41, go_sem]) rfl ⟨rfl, (((Below.refl _ _).alloc (Nat.le_refl _) _).alloc (by simp) _).drew⟩
set_option maxHeartbeats 1000000 in
theorem what_throw (g n cap : Nat) (h3 : (3 : Int) ≤ (n : Int)) (hn : n ≤ 1000) (who seq : Int) (U S : Nat → Int) (w : World) (hg : g < w.heap.size) (hc : w.cell? ⟨g, 2, none⟩ = some (.string ⟨#[116, 104, 114, 111, 119]⟩)) (hL : Looked (.slice (some ⟨g, 0, none⟩) n cap) w U S) :
    Calls Tryz.prog 41 #[.agg #[.int .i64 who, .int .i64 seq, .int .i64 0, .int .i64 0, .int .i64 0], .slice (some ⟨g, 0, none⟩) n cap] w fun e w' => e = .returned (.agg #[.int .i64 who, .int .i64 seq, .int .i64 5, .int .i64 (S 3), .int .i64 (U 4)]) ∧ Below w.heap.size w w' := by
  have BA : Below w.heap.size w ((w.alloc (.cells #[.int .i64 who, .int .i64 seq, .int .i64 0, .int .i64 0, .int .i64 0] 46)).alloc (.cells #[.int .i64 0, .int .i64 0, .int .i64 0, .int .i64 0, .int .i64 0] 46)) := ((Below.refl _ _).alloc (Nat.le_refl _) _).alloc (by simp) _
  have LU : Hid (∀ (k : Int), 0 ≤ k → k ≤ 100 → ∀ w', Below w.heap.size w w' → Calls Tryz.prog 15 #[.slice (some ⟨g, 0, none⟩) n cap, .int .i64 k] w' fun e w'' => e = .returned (.int .i64 (U k.toNat)) ∧ w'' = w') := fun k h0 h1 w' hb => by
    have := (hL w' hb).1 k.toNat (by omega)
    rwa [show ((k.toNat : Nat) : Int) = k by omega] at this
  have LS : Hid (∀ (k : Int), 0 ≤ k → k ≤ 100 → ∀ w', Below w.heap.size w w' → Calls Tryz.prog 62 #[.slice (some ⟨g, 0, none⟩) n cap, .int .i64 k] w' fun e w'' => e = .returned (.int .i64 (S k.toNat)) ∧ w'' = w') := fun k h0 h1 w' hb => by
    have := (hL w' hb).2 k.toNat (by omega)
    rwa [show ((k.toNat : Nat) : Int) = k by omega] at this
  clear hL
  go_enter Tryz.func41, Tryz.ntmps41
  go_wp2_with fail
  go_region_held3 (fun w' => (∀ b o, b < w.heap.size + 1 → w'.cell? ⟨b, o, none⟩ = (w.alloc (.cells #[.int .i64 who, .int .i64 seq, .int .i64 0, .int .i64 0, .int .i64 0] 46)).cell? ⟨b, o, none⟩) ∧ w.heap.size + 2 ≤ w'.heap.size) (first | assumption | (refine ⟨fun b o hb => ?_, by simp⟩; exact ((Below.refl _ _).alloc (Nat.le_refl _) _ : Below (w.alloc (.cells #[.int .i64 who, .int .i64 seq, .int .i64 0, .int .i64 0, .int .i64 0] 46)).heap.size (w.alloc (.cells #[.int .i64 who, .int .i64 seq, .int .i64 0, .int .i64 0, .int .i64 0] 46)) (World.alloc _ _)).cell (p := ⟨b, o, none⟩) (by simpa using hb))) (first | (go_at_call 15; refine (LU.out _ (by omega) (by omega) _ (by repeat (first | exact BA | exact Below.refl _ _ | apply Below.drew | apply bdrewN))).mono ?_; rintro e w' ⟨rfl, hw'⟩; subst hw') | (go_at_call 62; refine (LS.out _ (by omega) (by omega) _ (by repeat (first | exact BA | exact Below.refl _ _ | apply Below.drew | apply bdrewN))).mono ?_; rintro e w' ⟨rfl, hw'⟩; subst hw'))
  go_wp2
  exact bodyPost_ret (v := .agg #[.int .i64 who, .int .i64 seq, .int .i64 5, .int .i64 (S 3), .int .i64 (U 4)]) (by simp [results, Tryz.results41, go_sem]) rfl ⟨rfl, (((Below.refl _ _).alloc (Nat.le_refl _) _).alloc (by simp) _).drew⟩
set_option maxHeartbeats 1000000 in
theorem what_rest (g n cap : Nat) (h3 : (3 : Int) ≤ (n : Int)) (hn : n ≤ 1000) (who seq : Int) (U S : Nat → Int) (w : World) (hg : g < w.heap.size) (hc : w.cell? ⟨g, 2, none⟩ = some (.string ⟨#[114, 101, 115, 116]⟩)) (hL : Looked (.slice (some ⟨g, 0, none⟩) n cap) w U S) :
    Calls Tryz.prog 41 #[.agg #[.int .i64 who, .int .i64 seq, .int .i64 0, .int .i64 0, .int .i64 0], .slice (some ⟨g, 0, none⟩) n cap] w fun e w' => e = .returned (.agg #[.int .i64 who, .int .i64 seq, .int .i64 6, .int .i64 0, .int .i64 0]) ∧ Below w.heap.size w w' := by
  have BA : Below w.heap.size w ((w.alloc (.cells #[.int .i64 who, .int .i64 seq, .int .i64 0, .int .i64 0, .int .i64 0] 46)).alloc (.cells #[.int .i64 0, .int .i64 0, .int .i64 0, .int .i64 0, .int .i64 0] 46)) := ((Below.refl _ _).alloc (Nat.le_refl _) _).alloc (by simp) _
  have LU : Hid (∀ (k : Int), 0 ≤ k → k ≤ 100 → ∀ w', Below w.heap.size w w' → Calls Tryz.prog 15 #[.slice (some ⟨g, 0, none⟩) n cap, .int .i64 k] w' fun e w'' => e = .returned (.int .i64 (U k.toNat)) ∧ w'' = w') := fun k h0 h1 w' hb => by
    have := (hL w' hb).1 k.toNat (by omega)
    rwa [show ((k.toNat : Nat) : Int) = k by omega] at this
  have LS : Hid (∀ (k : Int), 0 ≤ k → k ≤ 100 → ∀ w', Below w.heap.size w w' → Calls Tryz.prog 62 #[.slice (some ⟨g, 0, none⟩) n cap, .int .i64 k] w' fun e w'' => e = .returned (.int .i64 (S k.toNat)) ∧ w'' = w') := fun k h0 h1 w' hb => by
    have := (hL w' hb).2 k.toNat (by omega)
    rwa [show ((k.toNat : Nat) : Int) = k by omega] at this
  clear hL
  go_enter Tryz.func41, Tryz.ntmps41
  go_wp2
  exact bodyPost_ret (v := .agg #[.int .i64 who, .int .i64 seq, .int .i64 6, .int .i64 0, .int .i64 0]) (by simp [results, Tryz.results41, go_sem]) rfl ⟨rfl, ((Below.refl _ _).alloc (Nat.le_refl _) _).alloc (by simp) _⟩
theorem what_none (g n cap : Nat) (h3 : (3 : Int) ≤ (n : Int)) (hn : n ≤ 1000) (who seq : Int) (x : ByteArray) (hx : readerOf x = none) (w : World) (hg : g < w.heap.size) (hc : w.cell? ⟨g, 2, none⟩ = some (.string x)) :
    Calls Tryz.prog 41 #[.agg #[.int .i64 who, .int .i64 seq, .int .i64 0, .int .i64 0, .int .i64 0], .slice (some ⟨g, 0, none⟩) n cap] w fun e w' => e = .returned (.agg #[.int .i64 0, .int .i64 0, .int .i64 0, .int .i64 0, .int .i64 0]) ∧ Below w.heap.size w w' := by
  have nstep : (x.toList == [115, 116, 101, 112]) = false := by
    have e : (x.toList == [115, 116, 101, 112]) = decide (x = (⟨#[115, 116, 101, 112]⟩ : ByteArray)) := by
      rw [← list_eq]
      congr 1
      decide +kernel
    rw [e, decide_eq_false]
    intro h
    subst h
    exact absurd hx (by decide +kernel)
  have ngive : (x.toList == [103, 105, 118, 101]) = false := by
    have e : (x.toList == [103, 105, 118, 101]) = decide (x = (⟨#[103, 105, 118, 101]⟩ : ByteArray)) := by
      rw [← list_eq]
      congr 1
      decide +kernel
    rw [e, decide_eq_false]
    intro h
    subst h
    exact absurd hx (by decide +kernel)
  have ndrop : (x.toList == [100, 114, 111, 112]) = false := by
    have e : (x.toList == [100, 114, 111, 112]) = decide (x = (⟨#[100, 114, 111, 112]⟩ : ByteArray)) := by
      rw [← list_eq]
      congr 1
      decide +kernel
    rw [e, decide_eq_false]
    intro h
    subst h
    exact absurd hx (by decide +kernel)
  have npick : (x.toList == [112, 105, 99, 107]) = false := by
    have e : (x.toList == [112, 105, 99, 107]) = decide (x = (⟨#[112, 105, 99, 107]⟩ : ByteArray)) := by
      rw [← list_eq]
      congr 1
      decide +kernel
    rw [e, decide_eq_false]
    intro h
    subst h
    exact absurd hx (by decide +kernel)
  have nthrow : (x.toList == [116, 104, 114, 111, 119]) = false := by
    have e : (x.toList == [116, 104, 114, 111, 119]) = decide (x = (⟨#[116, 104, 114, 111, 119]⟩ : ByteArray)) := by
      rw [← list_eq]
      congr 1
      decide +kernel
    rw [e, decide_eq_false]
    intro h
    subst h
    exact absurd hx (by decide +kernel)
  have nrest : (x.toList == [114, 101, 115, 116]) = false := by
    have e : (x.toList == [114, 101, 115, 116]) = decide (x = (⟨#[114, 101, 115, 116]⟩ : ByteArray)) := by
      rw [← list_eq]
      congr 1
      decide +kernel
    rw [e, decide_eq_false]
    intro h
    subst h
    exact absurd hx (by decide +kernel)
  clear hx
  go_enter Tryz.func41, Tryz.ntmps41
  go_wp2
  exact bodyPost_ret (v := .agg #[.int .i64 0, .int .i64 0, .int .i64 0, .int .i64 0, .int .i64 0]) (by simp [results, Tryz.results41, go_sem]) rfl ⟨rfl, ((Below.refl _ _).alloc (Nat.le_refl _) _).alloc (by simp) _⟩
end Go.Proofs.YtalmnogdplhflaaGreatDoor
namespace Go.Proofs.YtalmnogdplhflaaGreatDoor
open Go.RowKit
set_option linter.unusedVariables false
def sT (s : ByteArray) (f : Nat) : Int := if f = 47 then sideF (wordB s 3) else if f = 49 then uF s 3 else if f = 52 then sideF (wordB s 3) else 0
def sN (s : ByteArray) (f : Nat) : Int := if f = 49 then uF s 4 else if f = 50 then uF s 3 else if f = 51 then uF s 3 else if f = 52 then uF s 4 else 0
theorem side_nil : sideF ⟨#[]⟩ = -1 := by decide +kernel
/-- The words of a text, as a row of the model's own, are looked at so. -/
theorem looked (s : ByteArray) (h : (s.size : Int) ≤ 100) (base g n cap : Nat) (hn : n = (words s.data.toList).length) (w : World) (ho : w.ownsRow base 9 1 (.slice (some ⟨g, 0, none⟩) n cap) n (strs (words s.data.toList))) :
    Looked (.slice (some ⟨g, 0, none⟩) n cap) w (uF s) (fun k => sideF (wordB s k)) := by
  intro w' hb
  have ho2 := ho.kept (w' := w') (row := none) ⟨hb.os, hb.tape, hb.output, hb.size, fun k hk _ => hb.block k hk⟩ (.inr (by simp [Value.ownBlock]))
  have wl : (words s.data.toList).length ≤ 200 := by have := wlen s.data.toList; rw [size_len] at this; omega
  subst hn
  refine ⟨fun k hk => ?_, fun k hk => ?_⟩
  · have := at_any s h _ k hk _ _ ho2
    unfold uF
    rw [if_pos (by omega)]
    exact this
  · by_cases hlt : k < (words s.data.toList).length
    · have hx : (words s.data.toList)[k]? = some ((words s.data.toList)[k]) := List.getElem?_eq_getElem hlt
      have hc := ho2.cells (g := g) rfl k (.string ⟨((words s.data.toList)[k]).toArray⟩) (by simp [strs, hx])
      rw [show (⟨g, 0, none⟩ : Addr).add k = ⟨g, k, none⟩ by unfold Addr.add; split <;> simp_all] at hc
      have hw : wordB s k = ⟨((words s.data.toList)[k]).toArray⟩ := by unfold wordB; rw [List.getD_eq_getElem?_getD, hx]; rfl
      have := where_some g (words s.data.toList).length cap k (by omega) (by omega) _ w' hc
      simp only [hw]
      exact this
    · have hw : wordB s k = ⟨#[]⟩ := by unfold wordB; rw [List.getD_eq_getElem?_getD, List.getElem?_eq_none (by omega)]; rfl
      have := where_none (some ⟨g, 0, none⟩) (words s.data.toList).length cap k (by omega) hk w'
      simp only [hw, side_nil]
      exact this
/-- What the model's l3What makes of the words. -/
theorem what_any (s : ByteArray) (h : (s.size : Int) ≤ 100) (h3 : 3 ≤ (words s.data.toList).length) (base g n cap : Nat) (hn : n = (words s.data.toList).length) (f : Nat) (hf : readerOf (wordB s 2) = some f) (who seq : Int) (w : World) (ho : w.ownsRow base 9 1 (.slice (some ⟨g, 0, none⟩) n cap) n (strs (words s.data.toList))) :
    Calls Tryz.prog 41 #[.agg #[.int .i64 who, .int .i64 seq, .int .i64 0, .int .i64 0, .int .i64 0], .slice (some ⟨g, 0, none⟩) n cap] w fun e w' => e = .returned (.agg #[.int .i64 who, .int .i64 seq, .int .i64 (ordK f), .int .i64 (sT s f), .int .i64 (sN s f)]) ∧ Below w.heap.size w w' := by
  have hL := looked s h base g n cap hn w ho
  have wl : (words s.data.toList).length ≤ 200 := by have := wlen s.data.toList; rw [size_len] at this; omega
  have hx : (words s.data.toList)[2]? = some ((words s.data.toList)[2]) := List.getElem?_eq_getElem (by omega)
  have hc := ho.cells (g := g) rfl 2 (.string ⟨((words s.data.toList)[2]).toArray⟩) (by simp [strs, hx])
  rw [show (⟨g, 0, none⟩ : Addr).add 2 = ⟨g, 2, none⟩ by unfold Addr.add; split <;> simp_all] at hc
  have hw : wordB s 2 = ⟨((words s.data.toList)[2]).toArray⟩ := by unfold wordB; rw [List.getD_eq_getElem?_getD, hx]; rfl
  rw [← hw] at hc
  have hg : g < w.heap.size := World.block_lt_of_cell? w _ hc
  unfold readerOf at hf
  repeat' split at hf
  all_goals first
    | (rename_i he; rw [he] at hc; simp only [Option.some.injEq] at hf; subst hf; first | exact what_step g n cap (by omega) (by omega) who seq _ _ w hg hc hL | exact what_give g n cap (by omega) (by omega) who seq _ _ w hg hc hL | exact what_drop g n cap (by omega) (by omega) who seq _ _ w hg hc hL | exact what_pick g n cap (by omega) (by omega) who seq _ _ w hg hc hL | exact what_throw g n cap (by omega) (by omega) who seq _ _ w hg hc hL | exact what_rest g n cap (by omega) (by omega) who seq _ _ w hg hc hL)
    | (simp at hf; done)
theorem what_else (s : ByteArray) (h : (s.size : Int) ≤ 100) (h3 : 3 ≤ (words s.data.toList).length) (base g n cap : Nat) (hn : n = (words s.data.toList).length) (hf : readerOf (wordB s 2) = none) (who seq : Int) (w : World) (ho : w.ownsRow base 9 1 (.slice (some ⟨g, 0, none⟩) n cap) n (strs (words s.data.toList))) :
    Calls Tryz.prog 41 #[.agg #[.int .i64 who, .int .i64 seq, .int .i64 0, .int .i64 0, .int .i64 0], .slice (some ⟨g, 0, none⟩) n cap] w fun e w' => e = .returned (.agg #[.int .i64 0, .int .i64 0, .int .i64 0, .int .i64 0, .int .i64 0]) ∧ Below w.heap.size w w' := by
  have wl : (words s.data.toList).length ≤ 200 := by have := wlen s.data.toList; rw [size_len] at this; omega
  have hx : (words s.data.toList)[2]? = some ((words s.data.toList)[2]) := List.getElem?_eq_getElem (by omega)
  have hc := ho.cells (g := g) rfl 2 (.string ⟨((words s.data.toList)[2]).toArray⟩) (by simp [strs, hx])
  rw [show (⟨g, 0, none⟩ : Addr).add 2 = ⟨g, 2, none⟩ by unfold Addr.add; split <;> simp_all] at hc
  have hw : wordB s 2 = ⟨((words s.data.toList)[2]).toArray⟩ := by unfold wordB; rw [List.getD_eq_getElem?_getD, hx]; rfl
  rw [← hw] at hc
  have hg : g < w.heap.size := World.block_lt_of_cell? w _ hc
  exact what_none g n cap (by omega) (by omega) who seq _ hf w hg hc
end Go.Proofs.YtalmnogdplhflaaGreatDoor
namespace Go.Proofs.YtalmnogdplhflaaGreatDoor
open Go.RowKit
set_option linter.unusedVariables false
theorem soread_long (s : ByteArray) (h : (100 : Int) < (s.size : Int)) (w : World) :
    Calls Tryz.prog 31 #[.string s] w fun e w' => e = .returned (.tuple #[.agg #[.int .i64 0, .int .i64 0, .int .i64 0, .int .i64 0, .int .i64 0], .bool false]) ∧ Below w.heap.size w w' := by
  go_enter Tryz.func31, Tryz.ntmps31
  go_wp2_with fail
  refine (words_long s h _).mono ?_
  rintro e w1 ⟨rfl, hb1⟩
  obtain ⟨hc, hf⟩ := bcell hb1
  have c0 : w1.cell? ⟨w.heap.size, 0, none⟩ = some (.int .i64 0) := (hc _ 0 (by simp)).trans (by simp)
  have f0 : w1.frozen? ⟨w.heap.size, 0, none⟩ = false := (hf _ 0 (by simp)).trans (by simp)
  have c1 : w1.cell? ⟨w.heap.size, 1, none⟩ = some (.int .i64 0) := (hc _ 1 (by simp)).trans (by simp)
  have f1 : w1.frozen? ⟨w.heap.size, 1, none⟩ = false := (hf _ 1 (by simp)).trans (by simp)
  have c2 : w1.cell? ⟨w.heap.size, 2, none⟩ = some (.int .i64 0) := (hc _ 2 (by simp)).trans (by simp)
  have f2 : w1.frozen? ⟨w.heap.size, 2, none⟩ = false := (hf _ 2 (by simp)).trans (by simp)
  have c3 : w1.cell? ⟨w.heap.size, 3, none⟩ = some (.int .i64 0) := (hc _ 3 (by simp)).trans (by simp)
  have f3 : w1.frozen? ⟨w.heap.size, 3, none⟩ = false := (hf _ 3 (by simp)).trans (by simp)
  have c4 : w1.cell? ⟨w.heap.size, 4, none⟩ = some (.int .i64 0) := (hc _ 4 (by simp)).trans (by simp)
  have f4 : w1.frozen? ⟨w.heap.size, 4, none⟩ = false := (hf _ 4 (by simp)).trans (by simp)
  have HB : Hid (Below w.heap.size w w1) := bthen ((Below.refl _ _).alloc (by simp) _) hb1
  clear hc hf hb1
  go_wp2
  exact bodyPost_ret (v := .tuple #[.agg #[.int .i64 0, .int .i64 0, .int .i64 0, .int .i64 0, .int .i64 0], .bool false]) (by simp [results, Tryz.results31, go_sem, c0, c1, c2, c3, c4]) rfl ⟨rfl, by (iterate 5 (refine Below.setCell ?_ (by simp) _)); exact HB.out⟩
theorem soread_few (s : ByteArray) (h : (s.size : Int) ≤ 100) (h3 : (words s.data.toList).length < 3) (w : World) :
    Calls Tryz.prog 31 #[.string s] w fun e w' => e = .returned (.tuple #[.agg #[.int .i64 0, .int .i64 0, .int .i64 0, .int .i64 0, .int .i64 0], .bool false]) ∧ Below w.heap.size w w' := by
  go_enter Tryz.func31, Tryz.ntmps31
  go_wp2_with fail
  refine (words_spec s h _).mono ?_
  rintro e w1 ⟨v, rfl, ho, hb1⟩
  obtain ⟨hc, hf⟩ := bcell hb1
  have c0 : w1.cell? ⟨w.heap.size, 0, none⟩ = some (.int .i64 0) := (hc _ 0 (by simp)).trans (by simp)
  have f0 : w1.frozen? ⟨w.heap.size, 0, none⟩ = false := (hf _ 0 (by simp)).trans (by simp)
  have c1 : w1.cell? ⟨w.heap.size, 1, none⟩ = some (.int .i64 0) := (hc _ 1 (by simp)).trans (by simp)
  have f1 : w1.frozen? ⟨w.heap.size, 1, none⟩ = false := (hf _ 1 (by simp)).trans (by simp)
  have c2 : w1.cell? ⟨w.heap.size, 2, none⟩ = some (.int .i64 0) := (hc _ 2 (by simp)).trans (by simp)
  have f2 : w1.frozen? ⟨w.heap.size, 2, none⟩ = false := (hf _ 2 (by simp)).trans (by simp)
  have c3 : w1.cell? ⟨w.heap.size, 3, none⟩ = some (.int .i64 0) := (hc _ 3 (by simp)).trans (by simp)
  have f3 : w1.frozen? ⟨w.heap.size, 3, none⟩ = false := (hf _ 3 (by simp)).trans (by simp)
  have c4 : w1.cell? ⟨w.heap.size, 4, none⟩ = some (.int .i64 0) := (hc _ 4 (by simp)).trans (by simp)
  have f4 : w1.frozen? ⟨w.heap.size, 4, none⟩ = false := (hf _ 4 (by simp)).trans (by simp)
  have HB : Hid (Below w.heap.size w w1) := bthen ((Below.refl _ _).alloc (by simp) _) hb1
  have h3' : ((words s.data.toList).length : Int) < 3 := by omega
  rcases ho.2 with ⟨rfl, h0⟩ | ⟨g, cap, cur, rfl, _⟩
  · have : (words s.data.toList).length ≠ 0 := by obtain ⟨a, b, e⟩ := words_cons s.data.toList; rw [e]; simp
    exact absurd h0 this
  clear hc hf hb1 ho
  go_wp2
  exact bodyPost_ret (v := .tuple #[.agg #[.int .i64 0, .int .i64 0, .int .i64 0, .int .i64 0, .int .i64 0], .bool false]) (by simp [results, Tryz.results31, go_sem, c0, c1, c2, c3, c4]) rfl ⟨rfl, by (iterate 5 (refine Below.setCell ?_ (by simp) _)); exact HB.out⟩
set_option maxHeartbeats 4000000 in
theorem soread_main (s : ByteArray) (h : (s.size : Int) ≤ 100) (h3 : 3 ≤ (words s.data.toList).length) (p0 p1 p2 p3 p4 : Int)
    (hW : ∀ (base g n cap : Nat) (w : World), n = (words s.data.toList).length → w.ownsRow base 9 1 (.slice (some ⟨g, 0, none⟩) n cap) n (strs (words s.data.toList)) →
      Calls Tryz.prog 41 #[.agg #[.int .i64 (uF s 0), .int .i64 (uF s 1), .int .i64 0, .int .i64 0, .int .i64 0], .slice (some ⟨g, 0, none⟩) n cap] w fun e w' => e = .returned (.agg #[.int .i64 p0, .int .i64 p1, .int .i64 p2, .int .i64 p3, .int .i64 p4]) ∧ Below w.heap.size w w') (w : World) :
    Calls Tryz.prog 31 #[.string s] w fun e w' => (((ordText p0 p1 p2 p3 p4).toList = s.toList ∧ e = .returned (.tuple #[.agg #[.int .i64 p0, .int .i64 p1, .int .i64 p2, .int .i64 p3, .int .i64 p4], .bool true])) ∨ ((ordText p0 p1 p2 p3 p4).toList ≠ s.toList ∧ e = .returned (.tuple #[.agg #[.int .i64 0, .int .i64 0, .int .i64 0, .int .i64 0, .int .i64 0], .bool false]))) ∧ Below w.heap.size w w' := by
  have hle : s.size ≤ 100 := by omega
  have hne0 : ¬ s = ⟨#[]⟩ := by intro e; subst e; simp [words] at h3
  have wl : (words s.data.toList).length ≤ 200 := by have := wlen s.data.toList; rw [size_len] at this; omega
  go_enter Tryz.func31, Tryz.ntmps31
  go_wp2_with fail
  refine (words_spec s h _).mono ?_
  rintro e w1 ⟨v, rfl, ho, hb1⟩
  obtain ⟨hc, hf⟩ := bcell hb1
  have c0 : w1.cell? ⟨w.heap.size, 0, none⟩ = some (.int .i64 0) := (hc _ 0 (by simp)).trans (by simp)
  have f0 : w1.frozen? ⟨w.heap.size, 0, none⟩ = false := (hf _ 0 (by simp)).trans (by simp)
  have c1 : w1.cell? ⟨w.heap.size, 1, none⟩ = some (.int .i64 0) := (hc _ 1 (by simp)).trans (by simp)
  have f1 : w1.frozen? ⟨w.heap.size, 1, none⟩ = false := (hf _ 1 (by simp)).trans (by simp)
  have c2 : w1.cell? ⟨w.heap.size, 2, none⟩ = some (.int .i64 0) := (hc _ 2 (by simp)).trans (by simp)
  have f2 : w1.frozen? ⟨w.heap.size, 2, none⟩ = false := (hf _ 2 (by simp)).trans (by simp)
  have c3 : w1.cell? ⟨w.heap.size, 3, none⟩ = some (.int .i64 0) := (hc _ 3 (by simp)).trans (by simp)
  have f3 : w1.frozen? ⟨w.heap.size, 3, none⟩ = false := (hf _ 3 (by simp)).trans (by simp)
  have c4 : w1.cell? ⟨w.heap.size, 4, none⟩ = some (.int .i64 0) := (hc _ 4 (by simp)).trans (by simp)
  have f4 : w1.frozen? ⟨w.heap.size, 4, none⟩ = false := (hf _ 4 (by simp)).trans (by simp)
  have HB : Hid (Below w.heap.size w w1) := bthen ((Below.refl _ _).alloc (by simp) _) hb1
  have hz1 : w.heap.size < w1.heap.size := by have := hb1.size; simp at this; omega
  rcases ho.2 with ⟨rfl, h0⟩ | ⟨g, cap, cur, rfl, hg, _⟩
  · omega
  have HL : Hid (∀ w' : World, Below w1.heap.size w1 w' → (Calls Tryz.prog 15 #[.slice (some ⟨g, 0, none⟩) (words s.data.toList).length cap, .int .i64 0] w' fun e w'' => e = .returned (.int .i64 (uF s 0)) ∧ w'' = w') ∧ (Calls Tryz.prog 15 #[.slice (some ⟨g, 0, none⟩) (words s.data.toList).length cap, .int .i64 1] w' fun e w'' => e = .returned (.int .i64 (uF s 1)) ∧ w'' = w') ∧
      (Calls Tryz.prog 41 #[.agg #[.int .i64 (uF s 0), .int .i64 (uF s 1), .int .i64 0, .int .i64 0, .int .i64 0], .slice (some ⟨g, 0, none⟩) (words s.data.toList).length cap] w' fun e w'' => e = .returned (.agg #[.int .i64 p0, .int .i64 p1, .int .i64 p2, .int .i64 p3, .int .i64 p4]) ∧ Below w'.heap.size w' w'')) := by
    intro w' hb
    have hL := looked s h _ g _ cap rfl w1 ho w' hb
    have ho2 := ho.kept (w' := w') (row := none) ⟨hb.os, hb.tape, hb.output, hb.size, fun k hk _ => hb.block k hk⟩ (.inr (by simp [Value.ownBlock]))
    exact ⟨hL.1 0 (by omega), hL.1 1 (by omega), hW _ g _ cap w' rfl ho2⟩
  have h3' : (3 : Int) ≤ ((words s.data.toList).length : Int) := by omega
  have wl' : ((words s.data.toList).length : Int) ≤ 200 := by omega
  clear hc hf hb1 ho hW
  generalize (words s.data.toList).length = NN at *
  go_wp2_with fail
  refine ((HL.out _ (Below.refl _ _)).1).mono ?_
  rintro e w' ⟨rfl, hw'⟩
  subst hw'
  go_wp2_with fail
  refine ((HL.out _ (Below.refl _ _)).2.1).mono ?_
  rintro e w' ⟨rfl, hw'⟩
  subst hw'
  go_wp2_with fail
  refine ((HL.out _ (Below.refl _ _)).2.2).mono ?_
  rintro e w2 ⟨rfl, hb2⟩
  clear HL
  have BO : Below w2.heap.size w2 (w2.alloc (.cells #[.int .i64 p0, .int .i64 p1, .int .i64 p2, .int .i64 p3, .int .i64 p4] 46)) := (Below.refl _ _).alloc (Nat.le_refl _) _
  cases hok : ordB p0 p1 p2 p3 p4
  · have HT : Hid ((ordText p0 p1 p2 p3 p4).toList ≠ s.toList) := by
      show _ ≠ _
      have : ordText p0 p1 p2 p3 p4 = ⟨#[]⟩ := by simp [ordText, hok]
      rw [this]
      intro e
      have e2 : s = ⟨#[]⟩ := (text_inj e).symm
      exact hne0 e2
    go_wp2_with fail
    refine (ordOk_spec _ _ _ _ _ _).mono ?_
    rintro e w3 ⟨rfl, hb3⟩
    rw [hok]
    obtain ⟨hcb, hfb⟩ := bcell (bthen (bthen hb2 BO) hb3)
    have hco := (bcell hb3).1
    have k0 : w3.cell? ⟨w.heap.size, 0, none⟩ = some (.int .i64 0) := (hcb _ 0 hz1).trans c0
    have q0 : w3.frozen? ⟨w.heap.size, 0, none⟩ = false := (hfb _ 0 hz1).trans f0
    have o0 : w3.cell? ⟨w2.heap.size, 0, none⟩ = some (.int .i64 p0) := (hco _ 0 (by simp)).trans (by simp)
    have k1 : w3.cell? ⟨w.heap.size, 1, none⟩ = some (.int .i64 0) := (hcb _ 1 hz1).trans c1
    have q1 : w3.frozen? ⟨w.heap.size, 1, none⟩ = false := (hfb _ 1 hz1).trans f1
    have o1 : w3.cell? ⟨w2.heap.size, 1, none⟩ = some (.int .i64 p1) := (hco _ 1 (by simp)).trans (by simp)
    have k2 : w3.cell? ⟨w.heap.size, 2, none⟩ = some (.int .i64 0) := (hcb _ 2 hz1).trans c2
    have q2 : w3.frozen? ⟨w.heap.size, 2, none⟩ = false := (hfb _ 2 hz1).trans f2
    have o2 : w3.cell? ⟨w2.heap.size, 2, none⟩ = some (.int .i64 p2) := (hco _ 2 (by simp)).trans (by simp)
    have k3 : w3.cell? ⟨w.heap.size, 3, none⟩ = some (.int .i64 0) := (hcb _ 3 hz1).trans c3
    have q3 : w3.frozen? ⟨w.heap.size, 3, none⟩ = false := (hfb _ 3 hz1).trans f3
    have o3 : w3.cell? ⟨w2.heap.size, 3, none⟩ = some (.int .i64 p3) := (hco _ 3 (by simp)).trans (by simp)
    have k4 : w3.cell? ⟨w.heap.size, 4, none⟩ = some (.int .i64 0) := (hcb _ 4 hz1).trans c4
    have q4 : w3.frozen? ⟨w.heap.size, 4, none⟩ = false := (hfb _ 4 hz1).trans f4
    have o4 : w3.cell? ⟨w2.heap.size, 4, none⟩ = some (.int .i64 p4) := (hco _ 4 (by simp)).trans (by simp)
    have HB3 : Hid (Below w.heap.size w w3) := bthen HB.out (bthen (bthen hb2 BO) hb3)
    clear hcb hfb hco hb3 BO hb2 c0 c1 c2 c3 c4 f0 f1 f2 f3 f4
    go_wp2
    exact bodyPost_ret (v := .tuple #[.agg #[.int .i64 0, .int .i64 0, .int .i64 0, .int .i64 0, .int .i64 0], .bool false]) (by simp [results, Tryz.results31, go_sem, k0, k1, k2, k3, k4]) rfl ⟨.inr ⟨HT.out, rfl⟩, by (iterate 5 (refine Below.setCell ?_ (by simp) _)); exact HB3.out⟩
  · go_wp2_with fail
    refine (ordOk_spec _ _ _ _ _ _).mono ?_
    rintro e w3 ⟨rfl, hb3⟩
    rw [hok]
    have o3' := (bcell hb3).1
    have i0 : w3.cell? ⟨w2.heap.size, 0, none⟩ = some (.int .i64 p0) := (o3' _ 0 (by simp)).trans (by simp)
    have i1 : w3.cell? ⟨w2.heap.size, 1, none⟩ = some (.int .i64 p1) := (o3' _ 1 (by simp)).trans (by simp)
    have i2 : w3.cell? ⟨w2.heap.size, 2, none⟩ = some (.int .i64 p2) := (o3' _ 2 (by simp)).trans (by simp)
    have i3 : w3.cell? ⟨w2.heap.size, 3, none⟩ = some (.int .i64 p3) := (o3' _ 3 (by simp)).trans (by simp)
    have i4 : w3.cell? ⟨w2.heap.size, 4, none⟩ = some (.int .i64 p4) := (o3' _ 4 (by simp)).trans (by simp)
    clear o3'
    go_wp2_with fail
    refine (ordText_spec _ _ _ _ _ _).mono ?_
    rintro e w4 ⟨rfl, hb4⟩
    have B34 := bthen hb3 hb4
    obtain ⟨hcb, hfb⟩ := bcell (bthen (bthen hb2 BO) B34)
    have hco := (bcell B34).1
    have k0 : w4.cell? ⟨w.heap.size, 0, none⟩ = some (.int .i64 0) := (hcb _ 0 hz1).trans c0
    have q0 : w4.frozen? ⟨w.heap.size, 0, none⟩ = false := (hfb _ 0 hz1).trans f0
    have o0 : w4.cell? ⟨w2.heap.size, 0, none⟩ = some (.int .i64 p0) := (hco _ 0 (by simp)).trans (by simp)
    have k1 : w4.cell? ⟨w.heap.size, 1, none⟩ = some (.int .i64 0) := (hcb _ 1 hz1).trans c1
    have q1 : w4.frozen? ⟨w.heap.size, 1, none⟩ = false := (hfb _ 1 hz1).trans f1
    have o1 : w4.cell? ⟨w2.heap.size, 1, none⟩ = some (.int .i64 p1) := (hco _ 1 (by simp)).trans (by simp)
    have k2 : w4.cell? ⟨w.heap.size, 2, none⟩ = some (.int .i64 0) := (hcb _ 2 hz1).trans c2
    have q2 : w4.frozen? ⟨w.heap.size, 2, none⟩ = false := (hfb _ 2 hz1).trans f2
    have o2 : w4.cell? ⟨w2.heap.size, 2, none⟩ = some (.int .i64 p2) := (hco _ 2 (by simp)).trans (by simp)
    have k3 : w4.cell? ⟨w.heap.size, 3, none⟩ = some (.int .i64 0) := (hcb _ 3 hz1).trans c3
    have q3 : w4.frozen? ⟨w.heap.size, 3, none⟩ = false := (hfb _ 3 hz1).trans f3
    have o3 : w4.cell? ⟨w2.heap.size, 3, none⟩ = some (.int .i64 p3) := (hco _ 3 (by simp)).trans (by simp)
    have k4 : w4.cell? ⟨w.heap.size, 4, none⟩ = some (.int .i64 0) := (hcb _ 4 hz1).trans c4
    have q4 : w4.frozen? ⟨w.heap.size, 4, none⟩ = false := (hfb _ 4 hz1).trans f4
    have o4 : w4.cell? ⟨w2.heap.size, 4, none⟩ = some (.int .i64 p4) := (hco _ 4 (by simp)).trans (by simp)
    have HB4 : Hid (Below w.heap.size w w4) := bthen HB.out (bthen (bthen hb2 BO) B34)
    clear hcb hfb hco hb3 hb4 B34 BO hb2 c0 c1 c2 c3 c4 f0 f1 f2 f3 f4 i0 i1 i2 i3 i4
    by_cases ht : (ordText p0 p1 p2 p3 p4).toList = s.toList
    · have ht' : ((ordText p0 p1 p2 p3 p4).toList == s.toList) = true := by simpa using ht
      have HT : Hid ((ordText p0 p1 p2 p3 p4).toList = s.toList) := ht
      clear ht
      go_wp2
      exact bodyPost_ret (v := .tuple #[.agg #[.int .i64 p0, .int .i64 p1, .int .i64 p2, .int .i64 p3, .int .i64 p4], .bool true]) (by simp [results, Tryz.results31, go_sem, k0, k1, k2, k3, k4]) rfl ⟨.inl ⟨HT.out, rfl⟩, by (iterate 5 (refine Below.setCell ?_ (by simp) _)); exact HB4.out⟩
    · have ht' : ((ordText p0 p1 p2 p3 p4).toList == s.toList) = false := by simpa using ht
      have HT : Hid ((ordText p0 p1 p2 p3 p4).toList ≠ s.toList) := ht
      clear ht
      go_wp2
      exact bodyPost_ret (v := .tuple #[.agg #[.int .i64 0, .int .i64 0, .int .i64 0, .int .i64 0, .int .i64 0], .bool false]) (by simp [results, Tryz.results31, go_sem, k0, k1, k2, k3, k4]) rfl ⟨.inr ⟨HT.out, rfl⟩, by (iterate 5 (refine Below.setCell ?_ (by simp) _)); exact HB4.out⟩
end Go.Proofs.YtalmnogdplhflaaGreatDoor
namespace Go.Proofs.YtalmnogdplhflaaGreatDoor
open Go.RowKit
set_option linter.unusedVariables false
set_option maxRecDepth 20000
theorem side_word {t : Int} (h : sideB t = true) : sideF (wordOf t) = t ∧ (∀ b ∈ (wordOf t).data.toList, b ≠ 32) ∧ (wordOf t).data.toList.length ≤ 5 := by
  have : t = 0 ∨ t = 1 := by simp [sideB, inB] at h; omega
  rcases this with rfl | rfl <;> decide +kernel
theorem eta2 (b : ByteArray) : (⟨b.data.toList.toArray⟩ : ByteArray) = b := by
  cases b with | mk d => simp
theorem back_step {s : ByteArray} {who seq du n : Int} (hw : 1 ≤ who ∧ who ≤ 9) (hq : 1 ≤ seq ∧ seq ≤ 900) (hd : sideB du = true) (hs : s.data.toList = (Lib.decDigits who.toNat ++ 32 :: (Lib.decDigits seq.toNat ++ 32 :: ([115, 116, 101, 112] ++ 32 :: (wordOf du).data.toList)))) :
    s.size ≤ 100 ∧ 3 ≤ (words s.data.toList).length ∧ readerOf (wordB s 2) = some 47 ∧ (oW s = who ∧ oS s = seq ∧ oT s 47 = du ∧ oN s 47 = 0) ∧ (uF s 0 = who ∧ uF s 1 = seq ∧ sT s 47 = du ∧ sN s 47 = 0) := by
  obtain ⟨gq, zq, vq, uq⟩ := good_digits who (by omega) (by omega)
  obtain ⟨gs, zs, vs, us⟩ := good_digits seq (by omega) (by omega)
  obtain ⟨sw, gw, zw⟩ := side_word hd
  have hws : words s.data.toList = [Lib.decDigits who.toNat, Lib.decDigits seq.toNat, [115, 116, 101, 112], (wordOf du).data.toList] := by rw [hs, words_app _ _ gq, words_app _ _ gs, words_app _ _ (by decide), words_last _ gw]
  have hle : s.size ≤ 100 := by
    rw [← size_len, hs]
    simp only [List.length_append, List.length_cons, List.length_nil]
    omega
  have h0 : wordB s 0 = ⟨(Lib.decDigits who.toNat).toArray⟩ := by unfold wordB; rw [hws]; rfl
  have h1 : wordB s 1 = ⟨(Lib.decDigits seq.toNat).toArray⟩ := by unfold wordB; rw [hws]; rfl
  have h2 : wordB s 2 = ⟨#[115, 116, 101, 112]⟩ := by unfold wordB; rw [hws]; rfl
  have h3 : wordB s 3 = wordOf du := by unfold wordB; rw [hws]; exact eta2 _
  refine ⟨hle, by rw [hws]; simp, by rw [h2]; decide +kernel, ⟨by unfold oW; rw [h0]; exact vq, by unfold oS; rw [h1]; exact vs, by unfold oT; show sideF (wordB s 3) = du; rw [h3]; exact sw, rfl⟩, by unfold uF; rw [if_pos hle, hws]; exact uq, by unfold uF; rw [if_pos hle, hws]; exact us, by show sideF (wordB s 3) = du; rw [h3]; exact sw, rfl⟩
theorem back_give {s : ByteArray} {who seq du n : Int} (hw : 1 ≤ who ∧ who ≤ 9) (hq : 1 ≤ seq ∧ seq ≤ 900) (hd : 1 ≤ du ∧ du ≤ 9) (hn : 1 ≤ n ∧ n ≤ 9) (hs : s.data.toList = (Lib.decDigits who.toNat ++ 32 :: (Lib.decDigits seq.toNat ++ 32 :: ([103, 105, 118, 101] ++ 32 :: (Lib.decDigits du.toNat ++ 32 :: Lib.decDigits n.toNat))))) :
    s.size ≤ 100 ∧ 3 ≤ (words s.data.toList).length ∧ readerOf (wordB s 2) = some 49 ∧ (oW s = who ∧ oS s = seq ∧ oT s 49 = du ∧ oN s 49 = n) ∧ (uF s 0 = who ∧ uF s 1 = seq ∧ sT s 49 = du ∧ sN s 49 = n) := by
  obtain ⟨gq, zq, vq, uq⟩ := good_digits who (by omega) (by omega)
  obtain ⟨gs, zs, vs, us⟩ := good_digits seq (by omega) (by omega)
  obtain ⟨gt, zt, vt, ut⟩ := good_digits du (by omega) (by omega)
  obtain ⟨gn, zn, vn, un⟩ := good_digits n (by omega) (by omega)
  have hws : words s.data.toList = [Lib.decDigits who.toNat, Lib.decDigits seq.toNat, [103, 105, 118, 101], Lib.decDigits du.toNat, Lib.decDigits n.toNat] := by rw [hs, words_app _ _ gq, words_app _ _ gs, words_app _ _ (by decide), words_app _ _ gt, words_last _ gn]
  have hle : s.size ≤ 100 := by
    rw [← size_len, hs]
    simp only [List.length_append, List.length_cons, List.length_nil]
    omega
  have h0 : wordB s 0 = ⟨(Lib.decDigits who.toNat).toArray⟩ := by unfold wordB; rw [hws]; rfl
  have h1 : wordB s 1 = ⟨(Lib.decDigits seq.toNat).toArray⟩ := by unfold wordB; rw [hws]; rfl
  have h2 : wordB s 2 = ⟨#[103, 105, 118, 101]⟩ := by unfold wordB; rw [hws]; rfl
  have h3 : wordB s 3 = ⟨(Lib.decDigits du.toNat).toArray⟩ := by unfold wordB; rw [hws]; rfl
  have h4 : wordB s 4 = ⟨(Lib.decDigits n.toNat).toArray⟩ := by unfold wordB; rw [hws]; rfl
  refine ⟨hle, by rw [hws]; simp, by rw [h2]; decide +kernel, ⟨by unfold oW; rw [h0]; exact vq, by unfold oS; rw [h1]; exact vs, by unfold oT; show atoiV (wordB s 3).data.toList = du; rw [h3]; exact vt, by unfold oN; show atoiV (wordB s 4).data.toList = n; rw [h4]; exact vn⟩, by unfold uF; rw [if_pos hle, hws]; exact uq, by unfold uF; rw [if_pos hle, hws]; exact us, by show uF s 3 = du; unfold uF; rw [if_pos hle, hws]; exact ut, by show uF s 4 = n; unfold uF; rw [if_pos hle, hws]; exact un⟩
theorem back_drop {s : ByteArray} {who seq du n : Int} (hw : 1 ≤ who ∧ who ≤ 9) (hq : 1 ≤ seq ∧ seq ≤ 900) (hn : 1 ≤ n ∧ n ≤ 9) (hs : s.data.toList = (Lib.decDigits who.toNat ++ 32 :: (Lib.decDigits seq.toNat ++ 32 :: ([100, 114, 111, 112] ++ 32 :: Lib.decDigits n.toNat)))) :
    s.size ≤ 100 ∧ 3 ≤ (words s.data.toList).length ∧ readerOf (wordB s 2) = some 50 ∧ (oW s = who ∧ oS s = seq ∧ oT s 50 = 0 ∧ oN s 50 = n) ∧ (uF s 0 = who ∧ uF s 1 = seq ∧ sT s 50 = 0 ∧ sN s 50 = n) := by
  obtain ⟨gq, zq, vq, uq⟩ := good_digits who (by omega) (by omega)
  obtain ⟨gs, zs, vs, us⟩ := good_digits seq (by omega) (by omega)
  obtain ⟨gn, zn, vn, un⟩ := good_digits n (by omega) (by omega)
  have hws : words s.data.toList = [Lib.decDigits who.toNat, Lib.decDigits seq.toNat, [100, 114, 111, 112], Lib.decDigits n.toNat] := by rw [hs, words_app _ _ gq, words_app _ _ gs, words_app _ _ (by decide), words_last _ gn]
  have hle : s.size ≤ 100 := by
    rw [← size_len, hs]
    simp only [List.length_append, List.length_cons, List.length_nil]
    omega
  have h0 : wordB s 0 = ⟨(Lib.decDigits who.toNat).toArray⟩ := by unfold wordB; rw [hws]; rfl
  have h1 : wordB s 1 = ⟨(Lib.decDigits seq.toNat).toArray⟩ := by unfold wordB; rw [hws]; rfl
  have h2 : wordB s 2 = ⟨#[100, 114, 111, 112]⟩ := by unfold wordB; rw [hws]; rfl
  have h3 : wordB s 3 = ⟨(Lib.decDigits n.toNat).toArray⟩ := by unfold wordB; rw [hws]; rfl
  refine ⟨hle, by rw [hws]; simp, by rw [h2]; decide +kernel, ⟨by unfold oW; rw [h0]; exact vq, by unfold oS; rw [h1]; exact vs, rfl, by unfold oN; show atoiV (wordB s 3).data.toList = n; rw [h3]; exact vn⟩, by unfold uF; rw [if_pos hle, hws]; exact uq, by unfold uF; rw [if_pos hle, hws]; exact us, rfl, by show uF s 3 = n; unfold uF; rw [if_pos hle, hws]; exact un⟩
theorem back_pick {s : ByteArray} {who seq du n : Int} (hw : 1 ≤ who ∧ who ≤ 9) (hq : 1 ≤ seq ∧ seq ≤ 900) (hn : 1 ≤ n ∧ n ≤ 9) (hs : s.data.toList = (Lib.decDigits who.toNat ++ 32 :: (Lib.decDigits seq.toNat ++ 32 :: ([112, 105, 99, 107] ++ 32 :: Lib.decDigits n.toNat)))) :
    s.size ≤ 100 ∧ 3 ≤ (words s.data.toList).length ∧ readerOf (wordB s 2) = some 51 ∧ (oW s = who ∧ oS s = seq ∧ oT s 51 = 0 ∧ oN s 51 = n) ∧ (uF s 0 = who ∧ uF s 1 = seq ∧ sT s 51 = 0 ∧ sN s 51 = n) := by
  obtain ⟨gq, zq, vq, uq⟩ := good_digits who (by omega) (by omega)
  obtain ⟨gs, zs, vs, us⟩ := good_digits seq (by omega) (by omega)
  obtain ⟨gn, zn, vn, un⟩ := good_digits n (by omega) (by omega)
  have hws : words s.data.toList = [Lib.decDigits who.toNat, Lib.decDigits seq.toNat, [112, 105, 99, 107], Lib.decDigits n.toNat] := by rw [hs, words_app _ _ gq, words_app _ _ gs, words_app _ _ (by decide), words_last _ gn]
  have hle : s.size ≤ 100 := by
    rw [← size_len, hs]
    simp only [List.length_append, List.length_cons, List.length_nil]
    omega
  have h0 : wordB s 0 = ⟨(Lib.decDigits who.toNat).toArray⟩ := by unfold wordB; rw [hws]; rfl
  have h1 : wordB s 1 = ⟨(Lib.decDigits seq.toNat).toArray⟩ := by unfold wordB; rw [hws]; rfl
  have h2 : wordB s 2 = ⟨#[112, 105, 99, 107]⟩ := by unfold wordB; rw [hws]; rfl
  have h3 : wordB s 3 = ⟨(Lib.decDigits n.toNat).toArray⟩ := by unfold wordB; rw [hws]; rfl
  refine ⟨hle, by rw [hws]; simp, by rw [h2]; decide +kernel, ⟨by unfold oW; rw [h0]; exact vq, by unfold oS; rw [h1]; exact vs, rfl, by unfold oN; show atoiV (wordB s 3).data.toList = n; rw [h3]; exact vn⟩, by unfold uF; rw [if_pos hle, hws]; exact uq, by unfold uF; rw [if_pos hle, hws]; exact us, rfl, by show uF s 3 = n; unfold uF; rw [if_pos hle, hws]; exact un⟩
theorem back_throw {s : ByteArray} {who seq du n : Int} (hw : 1 ≤ who ∧ who ≤ 9) (hq : 1 ≤ seq ∧ seq ≤ 900) (hd : sideB du = true) (hn : 1 ≤ n ∧ n ≤ 9) (hs : s.data.toList = (Lib.decDigits who.toNat ++ 32 :: (Lib.decDigits seq.toNat ++ 32 :: ([116, 104, 114, 111, 119] ++ 32 :: ((wordOf du).data.toList ++ 32 :: Lib.decDigits n.toNat))))) :
    s.size ≤ 100 ∧ 3 ≤ (words s.data.toList).length ∧ readerOf (wordB s 2) = some 52 ∧ (oW s = who ∧ oS s = seq ∧ oT s 52 = du ∧ oN s 52 = n) ∧ (uF s 0 = who ∧ uF s 1 = seq ∧ sT s 52 = du ∧ sN s 52 = n) := by
  obtain ⟨gq, zq, vq, uq⟩ := good_digits who (by omega) (by omega)
  obtain ⟨gs, zs, vs, us⟩ := good_digits seq (by omega) (by omega)
  obtain ⟨sw, gw, zw⟩ := side_word hd
  obtain ⟨gn, zn, vn, un⟩ := good_digits n (by omega) (by omega)
  have hws : words s.data.toList = [Lib.decDigits who.toNat, Lib.decDigits seq.toNat, [116, 104, 114, 111, 119], (wordOf du).data.toList, Lib.decDigits n.toNat] := by rw [hs, words_app _ _ gq, words_app _ _ gs, words_app _ _ (by decide), words_app _ _ gw, words_last _ gn]
  have hle : s.size ≤ 100 := by
    rw [← size_len, hs]
    simp only [List.length_append, List.length_cons, List.length_nil]
    omega
  have h0 : wordB s 0 = ⟨(Lib.decDigits who.toNat).toArray⟩ := by unfold wordB; rw [hws]; rfl
  have h1 : wordB s 1 = ⟨(Lib.decDigits seq.toNat).toArray⟩ := by unfold wordB; rw [hws]; rfl
  have h2 : wordB s 2 = ⟨#[116, 104, 114, 111, 119]⟩ := by unfold wordB; rw [hws]; rfl
  have h3 : wordB s 3 = wordOf du := by unfold wordB; rw [hws]; exact eta2 _
  have h4 : wordB s 4 = ⟨(Lib.decDigits n.toNat).toArray⟩ := by unfold wordB; rw [hws]; rfl
  refine ⟨hle, by rw [hws]; simp, by rw [h2]; decide +kernel, ⟨by unfold oW; rw [h0]; exact vq, by unfold oS; rw [h1]; exact vs, by unfold oT; show sideF (wordB s 3) = du; rw [h3]; exact sw, by unfold oN; show atoiV (wordB s 4).data.toList = n; rw [h4]; exact vn⟩, by unfold uF; rw [if_pos hle, hws]; exact uq, by unfold uF; rw [if_pos hle, hws]; exact us, by show sideF (wordB s 3) = du; rw [h3]; exact sw, by show uF s 4 = n; unfold uF; rw [if_pos hle, hws]; exact un⟩
theorem back_rest {s : ByteArray} {who seq du n : Int} (hw : 1 ≤ who ∧ who ≤ 9) (hq : 1 ≤ seq ∧ seq ≤ 900) (hs : s.data.toList = (Lib.decDigits who.toNat ++ 32 :: (Lib.decDigits seq.toNat ++ 32 :: [114, 101, 115, 116]))) :
    s.size ≤ 100 ∧ 3 ≤ (words s.data.toList).length ∧ readerOf (wordB s 2) = some 53 ∧ (oW s = who ∧ oS s = seq ∧ oT s 53 = 0 ∧ oN s 53 = 0) ∧ (uF s 0 = who ∧ uF s 1 = seq ∧ sT s 53 = 0 ∧ sN s 53 = 0) := by
  obtain ⟨gq, zq, vq, uq⟩ := good_digits who (by omega) (by omega)
  obtain ⟨gs, zs, vs, us⟩ := good_digits seq (by omega) (by omega)
  have hws : words s.data.toList = [Lib.decDigits who.toNat, Lib.decDigits seq.toNat, [114, 101, 115, 116]] := by rw [hs, words_app _ _ gq, words_app _ _ gs, words_last _ (by decide)]
  have hle : s.size ≤ 100 := by
    rw [← size_len, hs]
    simp only [List.length_append, List.length_cons, List.length_nil]
    omega
  have h0 : wordB s 0 = ⟨(Lib.decDigits who.toNat).toArray⟩ := by unfold wordB; rw [hws]; rfl
  have h1 : wordB s 1 = ⟨(Lib.decDigits seq.toNat).toArray⟩ := by unfold wordB; rw [hws]; rfl
  have h2 : wordB s 2 = ⟨#[114, 101, 115, 116]⟩ := by unfold wordB; rw [hws]; rfl
  refine ⟨hle, by rw [hws]; simp, by rw [h2]; decide +kernel, ⟨by unfold oW; rw [h0]; exact vq, by unfold oS; rw [h1]; exact vs, rfl, rfl⟩, by unfold uF; rw [if_pos hle, hws]; exact uq, by unfold uF; rw [if_pos hle, hws]; exact us, rfl, rfl⟩
end Go.Proofs.YtalmnogdplhflaaGreatDoor
namespace Go.Proofs.YtalmnogdplhflaaGreatDoor
open Go.RowKit
set_option linter.unusedVariables false
theorem text_of_size {s : ByteArray} (h : s.size = 0) : s = ⟨#[]⟩ := by
  cases s with | mk d => cases d with | mk l => simp [ByteArray.size] at h; simp [h]
theorem oread_long (s : ByteArray) (h : (100 : Int) < (s.size : Int)) (w : World) :
    Calls Tryz.prog 25 #[.string s] w fun e w' => e = .returned (.tuple #[.agg #[.int .i64 0, .int .i64 0, .int .i64 0, .int .i64 0, .int .i64 0], .bool false]) ∧ Below w.heap.size w w' := by
  go_enter Tryz.func25, Tryz.ntmps25
  go_wp2
  all_goals first
    | exact bodyPost_ret (v := .tuple #[.agg #[.int .i64 0, .int .i64 0, .int .i64 0, .int .i64 0, .int .i64 0], .bool false]) (by simp [results, Tryz.results25, go_sem]) rfl ⟨rfl, (Below.refl _ _).alloc (by simp) _⟩
    | (exfalso; simp_all; done)
theorem ord_back {s : ByteArray} {p0 p1 p2 p3 p4 : Int} (h : ordText p0 p1 p2 p3 p4 = s) (h0 : ¬ s.size = 0) :
    ∃ f, s.size ≤ 100 ∧ 3 ≤ (words s.data.toList).length ∧ readerOf (wordB s 2) = some f ∧ (oW s = p0 ∧ oS s = p1 ∧ oK s f = p2 ∧ oT s f = p3 ∧ oN s f = p4) ∧ (uF s 0 = p0 ∧ uF s 1 = p1 ∧ ordK f = p2 ∧ sT s f = p3 ∧ sN s f = p4) := by
  unfold ordText at h
  split at h
  · rename_i hb
    obtain ⟨hw, hq, hk⟩ := ordB_true hb
    have hc : p2 = 1 ∨ p2 = 2 ∨ p2 = 3 ∨ p2 = 4 ∨ p2 = 5 ∨ p2 = 6 := by
      by_cases h1 : p2 = 1 ∨ p2 = 2 ∨ p2 = 3 ∨ p2 = 4 ∨ p2 = 5 ∨ p2 = 6
      · exact h1
      · have n1 : p2 ≠ 1 := by omega
        have n2 : p2 ≠ 2 := by omega
        have n3 : p2 ≠ 3 := by omega
        have n4 : p2 ≠ 4 := by omega
        have n5 : p2 ≠ 5 := by omega
        have n6 : p2 ≠ 6 := by omega
        simp [kindB, n1, n2, n3, n4, n5, n6] at hk
    clear hb
    rcases hc with rfl | rfl | rfl | rfl | rfl | rfl
    · have hk' : sideB p3 = true ∧ p4 = 0 := by simpa [kindB, inB, and_assoc] using hk
      obtain ⟨hd, h4⟩ := hk'
      obtain ⟨a, b, c, ⟨d1, d2, d3, d4⟩, e1, e2, e3, e4⟩ := back_step (s := s) (du := p3) (n := p4) hw hq hd (by rw [← h]; simp [OH, OH1, OH2, tailOf, tstep, DD, ByteArray.data_append])
      exact ⟨47, a, b, c, ⟨d1, d2, rfl, by simp_all, by simp_all⟩, e1, e2, rfl, by simp_all, by simp_all⟩
    · have hk' : 1 ≤ p3 ∧ p3 ≤ 9 ∧ ¬ p3 = p0 ∧ 1 ≤ p4 ∧ p4 ≤ 9 := by simpa [kindB, inB, and_assoc] using hk
      obtain ⟨d1, d2, _, n1, n2⟩ := hk'
      obtain ⟨a, b, c, ⟨d1, d2, d3, d4⟩, e1, e2, e3, e4⟩ := back_give (s := s) (du := p3) (n := p4) hw hq ⟨d1, d2⟩ ⟨n1, n2⟩ (by rw [← h]; simp [OH, OH1, OH2, tailOf, tgive, DD, ByteArray.data_append])
      exact ⟨49, a, b, c, ⟨d1, d2, rfl, by simp_all, by simp_all⟩, e1, e2, rfl, by simp_all, by simp_all⟩
    · have hk' : p3 = 0 ∧ 1 ≤ p4 ∧ p4 ≤ 9 := by simpa [kindB, inB, and_assoc] using hk
      obtain ⟨h3, n1, n2⟩ := hk'
      obtain ⟨a, b, c, ⟨d1, d2, d3, d4⟩, e1, e2, e3, e4⟩ := back_drop (s := s) (du := p3) (n := p4) hw hq ⟨n1, n2⟩ (by rw [← h]; simp [OH, OH1, OH2, tailOf, tdrop, DD, ByteArray.data_append])
      exact ⟨50, a, b, c, ⟨d1, d2, rfl, by simp_all, by simp_all⟩, e1, e2, rfl, by simp_all, by simp_all⟩
    · have hk' : p3 = 0 ∧ 1 ≤ p4 ∧ p4 ≤ 9 := by simpa [kindB, inB, and_assoc] using hk
      obtain ⟨h3, n1, n2⟩ := hk'
      obtain ⟨a, b, c, ⟨d1, d2, d3, d4⟩, e1, e2, e3, e4⟩ := back_pick (s := s) (du := p3) (n := p4) hw hq ⟨n1, n2⟩ (by rw [← h]; simp [OH, OH1, OH2, tailOf, tpick, DD, ByteArray.data_append])
      exact ⟨51, a, b, c, ⟨d1, d2, rfl, by simp_all, by simp_all⟩, e1, e2, rfl, by simp_all, by simp_all⟩
    · have hk' : sideB p3 = true ∧ 1 ≤ p4 ∧ p4 ≤ 9 := by simpa [kindB, inB, and_assoc] using hk
      obtain ⟨hd, n1, n2⟩ := hk'
      obtain ⟨a, b, c, ⟨d1, d2, d3, d4⟩, e1, e2, e3, e4⟩ := back_throw (s := s) (du := p3) (n := p4) hw hq hd ⟨n1, n2⟩ (by rw [← h]; simp [OH, OH1, OH2, tailOf, tthrow, DD, ByteArray.data_append])
      exact ⟨52, a, b, c, ⟨d1, d2, rfl, by simp_all, by simp_all⟩, e1, e2, rfl, by simp_all, by simp_all⟩
    · have hk' : p3 = 0 ∧ p4 = 0 := by simpa [kindB, inB, and_assoc] using hk
      obtain ⟨h3, h4⟩ := hk'
      obtain ⟨a, b, c, ⟨d1, d2, d3, d4⟩, e1, e2, e3, e4⟩ := back_rest (s := s) (du := p3) (n := p4) hw hq (by rw [← h]; simp [OH, OH1, OH2, tailOf, trest, DD, ByteArray.data_append])
      exact ⟨53, a, b, c, ⟨d1, d2, rfl, by simp_all, by simp_all⟩, e1, e2, rfl, by simp_all, by simp_all⟩
  · exact absurd (by rw [← h]; rfl) h0
theorem io_yes {s : ByteArray} {p0 p1 p2 p3 p4 : Int} (h : ordText p0 p1 p2 p3 p4 = s) (h0 : ¬ s.size = 0) (w : World) (hE : Env w) :
    Calls Tryz.prog 25 #[.string s] w fun e w' => e = .returned (.tuple #[.agg #[.int .i64 p0, .int .i64 p1, .int .i64 p2, .int .i64 p3, .int .i64 p4], .bool true]) ∧ Below w.heap.size w w' := by
  obtain ⟨f, hle, h3, hf, ⟨a0, a1, a2, a3, a4⟩, _⟩ := ord_back h h0
  refine (oread_some s (by omega) f hf w hE).mono ?_
  rw [a0, a1, a2, a3, a4]
  rintro e w' ⟨⟨_, rfl⟩ | ⟨hn, _⟩, hb⟩
  · exact ⟨rfl, hb⟩
  · exact absurd (by rw [h]) hn
theorem io_no {s : ByteArray} (h : ∀ p0 p1 p2 p3 p4 : Int, ordText p0 p1 p2 p3 p4 = s → s.size = 0) (w : World) (hE : Env w) :
    Calls Tryz.prog 25 #[.string s] w fun e w' => e = .returned (.tuple #[.agg #[.int .i64 0, .int .i64 0, .int .i64 0, .int .i64 0, .int .i64 0], .bool false]) ∧ Below w.heap.size w w' := by
  by_cases hle : s.size ≤ 100
  · cases hf : readerOf (wordB s 2) with
    | none => exact oread_none s (by omega) hf w hE
    | some f =>
      have h0 : ¬ s.size = 0 := by
        intro e
        rw [text_of_size e] at hf
        exact absurd hf (by simp only [wordB, words]; decide +kernel +revert)
      refine (oread_some s (by omega) f hf w hE).mono ?_
      rintro e w' ⟨⟨hy, _⟩ | ⟨_, rfl⟩, hb⟩
      · exact absurd (h _ _ _ _ _ (text_inj hy)) h0
      · exact ⟨rfl, hb⟩
  · exact oread_long s (by omega) w
theorem so_yes {s : ByteArray} {p0 p1 p2 p3 p4 : Int} (h : ordText p0 p1 p2 p3 p4 = s) (h0 : ¬ s.size = 0) (w : World) :
    Calls Tryz.prog 31 #[.string s] w fun e w' => e = .returned (.tuple #[.agg #[.int .i64 p0, .int .i64 p1, .int .i64 p2, .int .i64 p3, .int .i64 p4], .bool true]) ∧ Below w.heap.size w w' := by
  obtain ⟨f, hle, h3, hf, _, b0, b1, b2, b3, b4⟩ := ord_back h h0
  refine (soread_main s (by omega) h3 p0 p1 p2 p3 p4 (fun base g n cap w hn ho => ?_) w).mono ?_
  · have := what_any s (by omega) h3 base g n cap hn f hf (uF s 0) (uF s 1) w ho
    rw [b2, b3, b4] at this
    refine this.mono ?_
    rintro e w' ⟨rfl, hb⟩
    exact ⟨by rw [b0, b1], hb⟩
  · rintro e w' ⟨⟨_, rfl⟩ | ⟨hn, _⟩, hb⟩
    · exact ⟨rfl, hb⟩
    · exact absurd (by rw [h]) hn
theorem so_no {s : ByteArray} (h : ∀ p0 p1 p2 p3 p4 : Int, ordText p0 p1 p2 p3 p4 = s → s.size = 0) (w : World) :
    Calls Tryz.prog 31 #[.string s] w fun e w' => e = .returned (.tuple #[.agg #[.int .i64 0, .int .i64 0, .int .i64 0, .int .i64 0, .int .i64 0], .bool false]) ∧ Below w.heap.size w w' := by
  by_cases hle : s.size ≤ 100
  · by_cases h3 : 3 ≤ (words s.data.toList).length
    · have h0 : ¬ s.size = 0 := by
        intro e
        rw [text_of_size e] at h3
        simp [words] at h3
      cases hf : readerOf (wordB s 2) with
      | none =>
        refine (soread_main s (by omega) h3 0 0 0 0 0 (fun base g n cap w hn ho => what_else s (by omega) h3 base g n cap hn hf _ _ w ho) w).mono ?_
        rintro e w' ⟨⟨hy, _⟩ | ⟨_, rfl⟩, hb⟩
        · exact absurd (h _ _ _ _ _ (text_inj hy)) h0
        · exact ⟨rfl, hb⟩
      | some f =>
        refine (soread_main s (by omega) h3 _ _ _ _ _ (fun base g n cap w hn ho => what_any s (by omega) h3 base g n cap hn f hf _ _ w ho) w).mono ?_
        rintro e w' ⟨⟨hy, _⟩ | ⟨_, rfl⟩, hb⟩
        · exact absurd (h _ _ _ _ _ (text_inj hy)) h0
        · exact ⟨rfl, hb⟩
    · exact soread_few s (by omega) (by omega) w
  · exact soread_long s (by omega) w
end Go.Proofs.YtalmnogdplhflaaGreatDoor
