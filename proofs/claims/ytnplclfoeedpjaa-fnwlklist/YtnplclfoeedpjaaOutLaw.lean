/- The walk of the law FnExactWlkOut: it answers true; conditions: the list lies in memory as a row of structs of five integers. -/
import Derived.Test.YtnplclfoeedpjaaMark
namespace Go.Proofs.Ytnplclfoeedpjaa
open Go.RowKit Go.Deep Go.Maps
set_option linter.unusedVariables false

theorem M_pos (n : Nat) : ¬ M n 0 < 0 := by unfold M; omega

/-- A slice of the call's own that bears marks. -/
def Marked (w : World) (base : Nat) (v : Value) (N : Nat) : Prop := ∃ g cap, v = .slice (some ⟨g, 0, none⟩) N cap ∧ base ≤ g ∧ g < w.heap.size ∧ Own5 w g N M N
theorem Marked.below {w w' : World} {base : Nat} {v : Value} {N : Nat} (h : Marked w base v N) (hb : Below w.heap.size w w') : Marked w' base v N := by
  obtain ⟨g, cap, hv, h1, h2, h3⟩ := h
  exact ⟨g, cap, hv, h1, Nat.lt_of_lt_of_le h2 hb.size, own_below h3 h2 hb⟩

end Go.Proofs.Ytnplclfoeedpjaa
