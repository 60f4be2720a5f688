/- The comparison of two lists of walkers that are the same, and copies of lists; conditions: the list lies in memory as a row of structs of five integers. -/
import Derived.Test.YtnplclfoeedpjaaList
import Derived.Test.YtnplclfoeedpjaaOpen
namespace Go.Proofs.Ytnplclfoeedpjaa
open Go.RowKit Go.Deep
set_option linter.unusedVariables false

theorem own_row {w : World} {B n : Nat} {Z : Nat → Nat → Int} (h : Own5 w B n Z n) : ∀ k j, k < n → j < 5 → w.cell? ⟨B, 0 + k * 5 + j, none⟩ = some (.int .i64 (Z k j)) := fun k j hk hj => by
  rw [Nat.zero_add]; exact h.2 k j hk hj

theorem row_below {w w' : World} {B : Nat} {a : Option Addr} {n : Nat} {Z : Nat → Nat → Int} (h : Row5 w a n Z) (hb : Below w.heap.size w w') : Row5 w' a n Z := by
  rcases h with rfl | ⟨b, o, rfl, hlt, hr⟩
  · exact .inl rfl
  · exact .inr ⟨b, o, rfl, Nat.lt_of_lt_of_le hlt hb.size, fun k j hk hj => (hb.cell (p := ⟨b, _, none⟩) hlt).trans (hr k j hk hj)⟩

theorem cells_below {w w' : World} {b o n : Nat} {Z : Nat → Nat → Int} (h : ∀ k j, k < n → j < 5 → w.cell? ⟨b, o + k * 5 + j, none⟩ = some (.int .i64 (Z k j))) (hlt : b < w.heap.size) (hb : Below w.heap.size w w') :
    ∀ k j, k < n → j < 5 → w'.cell? ⟨b, o + k * 5 + j, none⟩ = some (.int .i64 (Z k j)) := fun k j hk hj => (hb.cell (p := ⟨b, _, none⟩) hlt).trans (h k j hk hj)

end Go.Proofs.Ytnplclfoeedpjaa
