/- The walk of CllOk, the program's; conditions: the cell lies in memory of its own. -/
import Derived.Test.YtiahmakaegnnfaaCOk3
namespace Go.Proofs.Ytiahmakaegnnfaa
open Go.RowKit Go.Deep
set_option linter.unusedVariables false

/-- Whether a cell is ok. -/
def cllB (c d : Int) (V : CV) : Bool :=
  hasB c d V.c && (allB c d V.W V.nW && (inB V.g 0 900 && (V.nO == 2 && (V.nX == 2 && (V.nI == 2 && (allK (fun k => !(cellF c d (V.W k 1) != V.c)) V.nW && (sideK c d V.c 0 (V.N 0) (V.O 0) (V.X 0) (V.I 0) && sideK c d V.c 1 (V.N 1) (V.O 1) (V.X 1) (V.I 1))))))))

theorem side_facts {w : World} {bO bX bI : Nat} {N : Nat → Nat} {O : Nat → Nat → Nat → Int} {X I : Nat → Int} (gO : OwnO w bO 2 N O 2) (gX : Own1 w bX 2 X 2) (gI : Own1 w bI 2 I 2) (s : Nat) (hs : s < 2) :
    ∃ g, g < w.heap.size ∧ w.cell? ⟨bO, s, none⟩ = some (.slice (some ⟨g, 0, none⟩) (N s) (N s)) ∧ w.cell? ⟨bX, s, none⟩ = some (.int .i64 (X s)) ∧ w.cell? ⟨bI, s, none⟩ = some (.int .i64 (I s)) ∧ ∀ k j, k < N s → j < 8 → w.cell? ⟨g, 0 + k * 8 + j, none⟩ = some (.int .i64 (O s k j)) := by
  obtain ⟨_, xs, _, h3⟩ := gO
  obtain ⟨_, a2, a3, a4⟩ := h3 s hs
  exact ⟨xs s, a2, a3, gX.2 s hs, gI.2 s hs, P8.own_row a4⟩

end Go.Proofs.Ytiahmakaegnnfaa
