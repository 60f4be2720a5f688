/- The comparison of two lists of parcels that are the same, and copies of lists; conditions: the list lies in memory as a row of structs of eight integers. -/
import Derived.Test.YtkobiniogigloaaList8
import Derived.Test.YtkobiniogigloaaOpen8
namespace Go.Proofs.Ytkobiniogigloaa
open Go.RowKit Go.Deep
set_option linter.unusedVariables false

theorem own_row {w : World} {B n : Nat} {Z : Nat → Nat → Int} (h : Own8 w B n Z n) : ∀ k j, k < n → j < 8 → w.cell? ⟨B, 0 + k * 8 + j, none⟩ = some (.int .i64 (Z k j)) := fun k j hk hj => by
  rw [Nat.zero_add]; exact h.2 k j hk hj

theorem row_below {w w' : World} {B : Nat} {a : Option Addr} {n : Nat} {Z : Nat → Nat → Int} (h : Row8 w a n Z) (hb : Below w.heap.size w w') : Row8 w' a n Z := by
  rcases h with rfl | ⟨b, o, rfl, hlt, hr⟩
  · exact .inl rfl
  · exact .inr ⟨b, o, rfl, Nat.lt_of_lt_of_le hlt hb.size, fun k j hk hj => (hb.cell (p := ⟨b, _, none⟩) hlt).trans (hr k j hk hj)⟩

theorem cells_below {w w' : World} {b o n : Nat} {Z : Nat → Nat → Int} (h : ∀ k j, k < n → j < 8 → w.cell? ⟨b, o + k * 8 + j, none⟩ = some (.int .i64 (Z k j))) (hlt : b < w.heap.size) (hb : Below w.heap.size w w') :
    ∀ k j, k < n → j < 8 → w'.cell? ⟨b, o + k * 8 + j, none⟩ = some (.int .i64 (Z k j)) := fun k j hk hj => (hb.cell (p := ⟨b, _, none⟩) hlt).trans (h k j hk hj)

end Go.Proofs.Ytkobiniogigloaa
