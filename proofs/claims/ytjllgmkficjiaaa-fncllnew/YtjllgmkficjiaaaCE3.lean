/- What is carried: lemmas on lists, cells and draws; conditions: those typed. -/
import Derived.WalkKit
import Derived.ProofKit
import Derived.OpenShut
import Derived.Below
import Derived.Deep.Slices
import Derived.Test.YtjllgmkficjiaaaRows
import Derived.WalkSpells
import Derived.Deep.RegionHeld3
import Derived.Deep.QuietTactic
import Derived.BigQuiet
import Derived.LoopTactic
import Derived.Deep.OwnRows
import Derived.Laws.IdiomCopy
import Derived.Laws.AppendOwn
import Derived.Deep.RegionHeld
import Derived.Deep.DeepCutAuto
import Derived.RangeFuncBox
import Derived.RangeFuncNested
import Derived.RangeFuncLeaves
import Derived.OwnWalkIn
import Derived.TacticsInMore
import Derived.LoopNIn
import Derived.LoopIn
import Derived.Test.YtjllgmkficjiaaaCA
import Derived.Test.YtjllgmkficjiaaaCB
import Derived.Test.YtjllgmkficjiaaaCC
import Derived.Test.YtjllgmkficjiaaaCE1
import Derived.Test.YtjllgmkficjiaaaCE2
namespace Go.Proofs.Ytjllgmkficjiaaa
open Go.RowKit Go.ChangeShapes Go.WideShapes Go.ChangeAt
end Go.Proofs.Ytjllgmkficjiaaa
namespace Go.Proofs.Ytjllgmkficjiaaa
open Go.RowKit Go.ChangeShapes Go.WideShapes Go.ChangeAt Go.Deep
end Go.Proofs.Ytjllgmkficjiaaa
namespace Go.Proofs.Ytjllgmkficjiaaa.P8
open Go.RowKit Go.ChangeShapes Go.WideShapes Go.ChangeAt Go.Deep
end Go.Proofs.Ytjllgmkficjiaaa.P8
namespace Go.Proofs.Ytjllgmkficjiaaa
open Go.RowKit Go.ChangeShapes Go.WideShapes Go.ChangeAt Go.Deep
section
variable {H : Type} {enc : TypeId × Value → H} {P : Program} {w : World} {base : Nat} {spare : Nat → Bool} {held : Bool}
variable {tw8 ti : TypeId} {fs5 : Array Field} {g0 g1 g2 g3 : Field}
end
end Go.Proofs.Ytjllgmkficjiaaa
namespace Go.Proofs.Ytjllgmkficjiaaa
open Go.RowKit
set_option linter.unusedVariables false
end Go.Proofs.Ytjllgmkficjiaaa
namespace Go.Proofs.Ytjllgmkficjiaaa
open Go.RowKit Go.Deep
set_option linter.unusedVariables false
end Go.Proofs.Ytjllgmkficjiaaa
namespace Go.Proofs.Ytjllgmkficjiaaa
open Go.RowKit Go.Deep
set_option linter.unusedVariables false
end Go.Proofs.Ytjllgmkficjiaaa
namespace Go.Proofs.Ytjllgmkficjiaaa
open Go.RowKit Go.Deep
set_option linter.unusedVariables false
end Go.Proofs.Ytjllgmkficjiaaa
namespace Go.Proofs.Ytjllgmkficjiaaa
open Go.RowKit
set_option linter.unusedVariables false
end Go.Proofs.Ytjllgmkficjiaaa
namespace Go.Proofs.Ytjllgmkficjiaaa
open Go.RowKit
set_option linter.unusedVariables false
end Go.Proofs.Ytjllgmkficjiaaa
namespace Go.Proofs.Ytjllgmkficjiaaa
open Go.RowKit
set_option linter.unusedVariables false
end Go.Proofs.Ytjllgmkficjiaaa
namespace Go.Proofs.Ytjllgmkficjiaaa
open Go.RowKit
set_option linter.unusedVariables false
end Go.Proofs.Ytjllgmkficjiaaa
namespace Go.Proofs.Ytjllgmkficjiaaa
open Go.RowKit
set_option linter.unusedVariables false
end Go.Proofs.Ytjllgmkficjiaaa
namespace Go.Proofs.Ytjllgmkficjiaaa.P8
open Go.RowKit Go.Deep
set_option linter.unusedVariables false
end Go.Proofs.Ytjllgmkficjiaaa.P8
namespace Go.Proofs.Ytjllgmkficjiaaa.P8
open Go.RowKit Go.Deep
set_option linter.unusedVariables false
end Go.Proofs.Ytjllgmkficjiaaa.P8
namespace Go.Proofs.Ytjllgmkficjiaaa
open Go.RowKit Go.Deep
set_option linter.unusedVariables false
end Go.Proofs.Ytjllgmkficjiaaa
namespace Go.Proofs.Ytjllgmkficjiaaa.P8
open Go.RowKit Go.Deep
set_option linter.unusedVariables false
end Go.Proofs.Ytjllgmkficjiaaa.P8
namespace Go.Proofs.Ytjllgmkficjiaaa.P8
open Go.RowKit Go.Deep
set_option linter.unusedVariables false
end Go.Proofs.Ytjllgmkficjiaaa.P8
namespace Go.Proofs.Ytjllgmkficjiaaa
open Go.RowKit Go.Deep
set_option linter.unusedVariables false
end Go.Proofs.Ytjllgmkficjiaaa
namespace Go.Proofs.Ytjllgmkficjiaaa
open Go.RowKit Go.Deep
set_option linter.unusedVariables false
end Go.Proofs.Ytjllgmkficjiaaa
namespace Go.Proofs.Ytjllgmkficjiaaa
open Go.RowKit Go.Deep
set_option linter.unusedVariables false
end Go.Proofs.Ytjllgmkficjiaaa
namespace Go.Proofs.Ytjllgmkficjiaaa
open Go.RowKit Go.Deep
set_option linter.unusedVariables false
end Go.Proofs.Ytjllgmkficjiaaa
namespace Go.Proofs.Ytjllgmkficjiaaa
open Go.RowKit Go.Deep
set_option linter.unusedVariables false
end Go.Proofs.Ytjllgmkficjiaaa
namespace Go.Proofs.Ytjllgmkficjiaaa
open Go.RowKit Go.Deep
set_option linter.unusedVariables false
end Go.Proofs.Ytjllgmkficjiaaa
namespace Go.Proofs.Ytjllgmkficjiaaa.P8
open Go.RowKit Go.Deep
set_option linter.unusedVariables false
end Go.Proofs.Ytjllgmkficjiaaa.P8
namespace Go.Proofs.Ytjllgmkficjiaaa.P8
open Go.RowKit Go.Deep
set_option linter.unusedVariables false
end Go.Proofs.Ytjllgmkficjiaaa.P8
namespace Go.Proofs.Ytjllgmkficjiaaa
open Go.RowKit
set_option linter.unusedVariables false
end Go.Proofs.Ytjllgmkficjiaaa
namespace Go.Proofs.Ytjllgmkficjiaaa
open Go.RowKit Go.Deep
set_option linter.unusedVariables false
end Go.Proofs.Ytjllgmkficjiaaa
namespace Go.Proofs.Ytjllgmkficjiaaa
open Go.RowKit Go.Deep
set_option linter.unusedVariables false
end Go.Proofs.Ytjllgmkficjiaaa
namespace Go.Proofs.Ytjllgmkficjiaaa
open Go.RowKit Go.Deep
set_option linter.unusedVariables false
end Go.Proofs.Ytjllgmkficjiaaa
namespace Go.Proofs.Ytjllgmkficjiaaa
open Go.RowKit Go.Deep
set_option linter.unusedVariables false
end Go.Proofs.Ytjllgmkficjiaaa
namespace Go.Proofs.Ytjllgmkficjiaaa
open Go.RowKit Go.Deep
set_option linter.unusedVariables false
end Go.Proofs.Ytjllgmkficjiaaa
namespace Go.Proofs.Ytjllgmkficjiaaa
open Go
set_option linter.unusedVariables false
section
variable {P : Program} {ops : Array Oper} {Q : Exit → Act → World → Prop}
end
end Go.Proofs.Ytjllgmkficjiaaa
namespace Go.Proofs.Ytjllgmkficjiaaa
open Go.RowKit Go.Deep
set_option linter.unusedVariables false
end Go.Proofs.Ytjllgmkficjiaaa
namespace Go.Proofs.Ytjllgmkficjiaaa
open Go.RowKit Go.Deep
set_option linter.unusedVariables false
end Go.Proofs.Ytjllgmkficjiaaa
namespace Go.Proofs.Ytjllgmkficjiaaa
open Go.RowKit Go.Deep
set_option linter.unusedVariables false
end Go.Proofs.Ytjllgmkficjiaaa
namespace Go.Proofs.Ytjllgmkficjiaaa
open Go.RowKit Go.Deep
set_option linter.unusedVariables false
theorem OwnC.at {lo hi : Nat} {w : World} {v : Value} {V : CV} (h : OwnC lo hi w v V) : CellAt w v V := by
  obtain ⟨vW, vO, vX, vI, gW, gO, gX, gI, sl, xs, rfl, rW, rO, rX, rI, hd, hx1, hx2⟩ := h
  have hW : ∃ a k, vW = .slice a V.nW k ∧ Row5 w a V.nW V.W := by
    rcases rW with ⟨e, a, k, rfl⟩ | ⟨k, rfl, h1, h2, h3, h4⟩
    · exact ⟨a, k, by rw [e], .inl e⟩
    · exact ⟨_, k, rfl, row5_of_own h4 (by omega)⟩
  have hI : ∀ (v : Value) (n : Nat) (X : Nat → Int) (g : Nat), RI lo hi w v n X g → ∃ a k, v = .slice a n k ∧ Row1 w a n X := fun v n X g r => by
    rcases r with ⟨e, a, k, rfl⟩ | ⟨k, rfl, h1, h2, h3, h4⟩
    · exact ⟨a, k, by rw [e], .inl e⟩
    · exact ⟨_, k, rfl, row1_of_own h4 (by omega)⟩
  have hO : ∃ a k, vO = .slice a V.nO k ∧ RowO w a V.nO V.N V.O := by
    rcases rO with ⟨e, a, k, rfl⟩ | ⟨k, rfl, h1, h2, h3, h4⟩
    · exact ⟨a, k, by rw [e], .inl e⟩
    · refine ⟨_, k, rfl, .inr ⟨gO, 0, rfl, by omega, fun i hi => ?_⟩⟩
      obtain ⟨hc, hp⟩ := h4 i hi
      rcases hp with ⟨e, a, k', e2⟩ | ⟨k', e2, h1, h2, h3, h4⟩
      · exact ⟨a, k', by rw [Nat.zero_add, hc, e2, e], .inl e⟩
      · exact ⟨_, k', by rw [Nat.zero_add, hc, e2], row8_of_own h4 (by omega)⟩
  obtain ⟨aW, kW, rfl, qW⟩ := hW
  obtain ⟨aO, kO, rfl, qO⟩ := hO
  obtain ⟨aX, kX, rfl, qX⟩ := hI _ _ _ _ rX
  obtain ⟨aI, kI, rfl, qI⟩ := hI _ _ _ _ rI
  exact ⟨aW, kW, aO, kO, aX, kX, aI, kI, rfl, qW, qO, qX, qI⟩
end Go.Proofs.Ytjllgmkficjiaaa
namespace Go.Proofs.Ytjllgmkficjiaaa
open Go.RowKit
set_option linter.unusedVariables false
end Go.Proofs.Ytjllgmkficjiaaa
namespace Go.Proofs.Ytjllgmkficjiaaa
open Go.RowKit
set_option linter.unusedVariables false
end Go.Proofs.Ytjllgmkficjiaaa
namespace Go.Proofs.Ytjllgmkficjiaaa.P16
open Go.RowKit Go.ChangeShapes Go.WideShapes Go.ChangeAt Go.Deep
end Go.Proofs.Ytjllgmkficjiaaa.P16
namespace Go.Proofs.Ytjllgmkficjiaaa.P16
open Go.RowKit Go.Deep
set_option linter.unusedVariables false
end Go.Proofs.Ytjllgmkficjiaaa.P16
namespace Go.Proofs.Ytjllgmkficjiaaa
open Go.RowKit
set_option linter.unusedVariables false
attribute [local go_sem] Oper.semAt_some
end Go.Proofs.Ytjllgmkficjiaaa
namespace Go.Proofs.Ytjllgmkficjiaaa
open Go.RowKit
set_option linter.unusedVariables false
attribute [local go_sem] Oper.semAt_some
end Go.Proofs.Ytjllgmkficjiaaa
namespace Go.Proofs.Ytjllgmkficjiaaa.P16
open Go.RowKit Go.Deep
set_option linter.unusedVariables false
end Go.Proofs.Ytjllgmkficjiaaa.P16
namespace Go.Proofs.Ytjllgmkficjiaaa
open Go.RowKit Go.Deep
set_option linter.unusedVariables false
end Go.Proofs.Ytjllgmkficjiaaa
namespace Go.Proofs.Ytjllgmkficjiaaa
open Go.RowKit Go.Deep
set_option linter.unusedVariables false
end Go.Proofs.Ytjllgmkficjiaaa
namespace Go.Proofs.Ytjllgmkficjiaaa
open Go.RowKit Go.Deep
set_option linter.unusedVariables false
theorem allB_at {c d : Int} {Z : Nat → Nat → Int} {n k : Nat} (h : allB c d Z n = true) (hk : k < n) : goodB c d Z k = true := by
  have := allB_down n (show k + 1 ≤ n by omega) h
  simp only [allB, Bool.and_eq_true] at this
  exact this.2
theorem allB_of {c d : Int} {Z : Nat → Nat → Int} : ∀ n, (∀ k, k < n → goodB c d Z k = true) → allB c d Z n = true
  | 0, _ => rfl
  | n + 1, h => by simp only [allB, allB_of n (fun k hk => h k (by omega)), h n (by omega), Bool.and_self]
theorem allB_lt {c d : Int} {Z : Nat → Nat → Int} {n i : Nat} (h : allB c d Z n = true) : ∀ j, i < j → j < n → Z i 0 < Z j 0
  | 0, h1, _ => absurd h1 (by omega)
  | j + 1, h1, h2 => by
    have g := allB_at h h2
    simp only [goodB, Bool.and_eq_true, Bool.or_eq_true, beq_iff_eq, decide_eq_true_eq, Nat.add_sub_cancel] at g
    have g2 : Z j 0 < Z (j + 1) 0 := by rcases g.2 with e | e
                                        · exact absurd e (by omega)
                                        · exact e
    by_cases e : i = j
    · subst e; exact g2
    · have := allB_lt (i := i) h j (by omega) (by omega)
      omega
theorem inL_mem {c d cell : Int} {Z : Nat → Nat → Int} {n k : Nat} (h : k < (inL c d cell Z n).length) : (inL c d cell Z n)[k]! < n ∧ cellF c d (Z (inL c d cell Z n)[k]! 1) = cell := by
  rw [getElem!_pos (inL c d cell Z n) k h]
  have := List.getElem_mem h
  simp only [inL, List.mem_filter, List.mem_range, beq_iff_eq] at this
  exact this
theorem inL_lt {c d cell : Int} {Z : Nat → Nat → Int} {n i j : Nat} (h : j < (inL c d cell Z n).length) (hij : i < j) : (inL c d cell Z n)[i]! < (inL c d cell Z n)[j]! := by
  rw [getElem!_pos (inL c d cell Z n) j h, getElem!_pos (inL c d cell Z n) i (by omega)]
  have hp : (inL c d cell Z n).Pairwise (· < ·) := List.Pairwise.filter _ List.pairwise_lt_range
  exact List.pairwise_iff_getElem.1 hp i j (by omega) h hij
theorem allB_inL {c d cell : Int} {Z : Nat → Nat → Int} {n : Nat} (h : allB c d Z n = true) : allB c d (fun k j => Z (inL c d cell Z n)[k]! j) (inL c d cell Z n).length = true := by
  refine allB_of _ (fun k hk => ?_)
  have m := inL_mem hk
  have g := allB_at h m.1
  simp only [goodB, Bool.and_eq_true] at g
  simp only [goodB, Bool.and_eq_true, Bool.or_eq_true, beq_iff_eq, decide_eq_true_eq]
  refine ⟨g.1, ?_⟩
  by_cases e : k = 0
  · exact .inl e
  · exact .inr (allB_lt h _ (inL_lt hk (by omega)) m.1)
end Go.Proofs.Ytjllgmkficjiaaa
