/- What is carried: lemmas on lists, cells and draws; conditions: those typed. -/
import Derived.WalkKit
import Derived.ProofKit
import Derived.OpenShut
import Derived.Below
import Derived.BigQuiet
import Derived.Test.YtgioecjnghllhaaGreatDoorRows
import Derived.WalkSpells
import Derived.Lib.ItoaNum
import Derived.Test.YtgioecjnghllhaaGreatDoorShelf
import Derived.Lib.AppendIntMem
import Derived.Deep.RegionHeld3
import Derived.Deep.QuietTactic
import Derived.Lib.AtoiAll
import Derived.Lib.Split
import Derived.Lib.SplitLaws
import Derived.Lib.IndexBytes
import Derived.Lib.AtoiErrMem
import Derived.LoopTactic
import Derived.OwnWalk
import Derived.Laws.IdiomCopy
import Derived.WideMake
import Derived.Laws.OwnMore
import Derived.Deep.RegionWith
import Derived.Deep.DeepCutAuto
import Derived.Lib.AppendZerosOnto
import Derived.Test.YtgioecjnghllhaaGreatDoorLA
import Derived.Test.YtgioecjnghllhaaGreatDoorLB
namespace Go.Proofs.YtgioecjnghllhaaGreatDoor
open Go.RowKit Go.ChangeShapes Go.WideShapes Go.ChangeAt
end Go.Proofs.YtgioecjnghllhaaGreatDoor
namespace Go.Proofs.YtgioecjnghllhaaGreatDoor
open Go.RowKit
set_option linter.unusedVariables false
end Go.Proofs.YtgioecjnghllhaaGreatDoor
namespace Go.Proofs.YtgioecjnghllhaaGreatDoor
open Go.RowKit
set_option linter.unusedVariables false
end Go.Proofs.YtgioecjnghllhaaGreatDoor
namespace Go.Proofs.YtgioecjnghllhaaGreatDoor
open Go.RowKit
set_option linter.unusedVariables false
end Go.Proofs.YtgioecjnghllhaaGreatDoor
namespace Go.Proofs.YtgioecjnghllhaaGreatDoor
open Go.RowKit
set_option linter.unusedVariables false
end Go.Proofs.YtgioecjnghllhaaGreatDoor
namespace Go.Proofs.YtgioecjnghllhaaGreatDoor
open Go.RowKit
set_option linter.unusedVariables false
end Go.Proofs.YtgioecjnghllhaaGreatDoor
namespace Go.Proofs.YtgioecjnghllhaaGreatDoor
open Go.RowKit
set_option linter.unusedVariables false
end Go.Proofs.YtgioecjnghllhaaGreatDoor
namespace Go.Proofs.YtgioecjnghllhaaGreatDoor
open Go.RowKit
set_option linter.unusedVariables false
end Go.Proofs.YtgioecjnghllhaaGreatDoor
namespace Go.Proofs.YtgioecjnghllhaaGreatDoor
open Go.RowKit
set_option linter.unusedVariables false
end Go.Proofs.YtgioecjnghllhaaGreatDoor
namespace Go.Proofs.YtgioecjnghllhaaGreatDoor
open Go.RowKit
set_option linter.unusedVariables false
end Go.Proofs.YtgioecjnghllhaaGreatDoor
namespace Go.Proofs.YtgioecjnghllhaaGreatDoor
open Go.RowKit
set_option linter.unusedVariables false
end Go.Proofs.YtgioecjnghllhaaGreatDoor
namespace Go.Proofs.YtgioecjnghllhaaGreatDoor
open Go.RowKit
set_option linter.unusedVariables false
end Go.Proofs.YtgioecjnghllhaaGreatDoor
namespace Go.Proofs.YtgioecjnghllhaaGreatDoor
open Go.RowKit
set_option linter.unusedVariables false
end Go.Proofs.YtgioecjnghllhaaGreatDoor
namespace Go.Proofs.YtgioecjnghllhaaGreatDoor
open Go.RowKit
set_option linter.unusedVariables false
set_option maxRecDepth 20000
end Go.Proofs.YtgioecjnghllhaaGreatDoor
namespace Go.Proofs.YtgioecjnghllhaaGreatDoor
open Go.RowKit
set_option linter.unusedVariables false
set_option maxRecDepth 20000
end Go.Proofs.YtgioecjnghllhaaGreatDoor
namespace Go.Proofs.YtgioecjnghllhaaGreatDoor
open Go.RowKit
set_option linter.unusedVariables false
set_option maxRecDepth 20000
end Go.Proofs.YtgioecjnghllhaaGreatDoor
namespace Go.Proofs.YtgioecjnghllhaaGreatDoor
open Go.RowKit
set_option linter.unusedVariables false
end Go.Proofs.YtgioecjnghllhaaGreatDoor
namespace Go.Proofs.YtgioecjnghllhaaGreatDoor
open Go.RowKit
set_option linter.unusedVariables false
end Go.Proofs.YtgioecjnghllhaaGreatDoor
namespace Go.Proofs.YtgioecjnghllhaaGreatDoor
open Go.RowKit
set_option linter.unusedVariables false
end Go.Proofs.YtgioecjnghllhaaGreatDoor
namespace Go.Proofs.YtgioecjnghllhaaGreatDoor
open Go.RowKit
set_option linter.unusedVariables false
end Go.Proofs.YtgioecjnghllhaaGreatDoor
namespace Go.Proofs.YtgioecjnghllhaaGreatDoor
open Go.RowKit
set_option linter.unusedVariables false
end Go.Proofs.YtgioecjnghllhaaGreatDoor
namespace Go.Proofs.YtgioecjnghllhaaGreatDoor
open Go.RowKit
set_option linter.unusedVariables false
set_option maxRecDepth 20000
end Go.Proofs.YtgioecjnghllhaaGreatDoor
namespace Go.Proofs.YtgioecjnghllhaaGreatDoor
open Go.RowKit
set_option linter.unusedVariables false
end Go.Proofs.YtgioecjnghllhaaGreatDoor
namespace Go.Proofs.YtgioecjnghllhaaGreatDoor
open Go.RowKit
set_option linter.unusedVariables false
end Go.Proofs.YtgioecjnghllhaaGreatDoor
namespace Go.Proofs.YtgioecjnghllhaaGreatDoor
open Go.RowKit
set_option linter.unusedVariables false
end Go.Proofs.YtgioecjnghllhaaGreatDoor
namespace Go.Proofs.YtgioecjnghllhaaGreatDoor
open Go.RowKit
set_option linter.unusedVariables false
set_option maxRecDepth 20000
end Go.Proofs.YtgioecjnghllhaaGreatDoor
namespace Go.Proofs.YtgioecjnghllhaaGreatDoor
open Go.RowKit
set_option linter.unusedVariables false
end Go.Proofs.YtgioecjnghllhaaGreatDoor
namespace Go.Proofs.YtgioecjnghllhaaGreatDoor
theorem ord_inj {p0 p1 p2 p3 p4 q0 q1 q2 q3 q4 : Int} (h : ordText p0 p1 p2 p3 p4 = ordText q0 q1 q2 q3 q4) (h0 : ¬ (ordText q0 q1 q2 q3 q4).size = 0) :
    p0 = q0 ∧ p1 = q1 ∧ p2 = q2 ∧ p3 = q3 ∧ p4 = q4 := by
  obtain ⟨f, _, _, hf, ⟨a0, a1, a2, a3, a4⟩, _⟩ := ord_back h h0
  obtain ⟨g, _, _, hg, ⟨b0, b1, b2, b3, b4⟩, _⟩ := ord_back rfl h0
  have e : f = g := by
    rw [hf] at hg
    exact Option.some.inj hg
  subst e
  exact ⟨a0.symm.trans b0, a1.symm.trans b1, a2.symm.trans b2, a3.symm.trans b3, a4.symm.trans b4⟩
theorem ordText_size_pos {p0 p1 p2 p3 p4 : Int} (h : ordB p0 p1 p2 p3 p4 = true) : ¬ (ordText p0 p1 p2 p3 p4).size = 0 := by
  unfold ordText
  rw [if_pos h]
  simp only [OH, OH1, OH2, ByteArray.size_append, SP]
  have : (⟨#[32]⟩ : ByteArray).size = 1 := rfl
  omega
end Go.Proofs.YtgioecjnghllhaaGreatDoor
