/- The walks of PclFrom, the program's and the model's: the parcels from a number on, as they stood, in memory of the call's own; conditions: the list lies in memory as a row of parcels. -/
import Derived.Test.YtlbjgecjonegkaaLaw8
import Derived.Laws.AppendOwn
namespace Go.Proofs.Ytlbjgecjonegkaa.P8
open Go.RowKit Go.Deep
set_option linter.unusedVariables false

def eight (Z : Nat → Nat → Int) (k : Nat) : List Value := [.int .i64 (Z k 0), .int .i64 (Z k 1), .int .i64 (Z k 2), .int .i64 (Z k 3), .int .i64 (Z k 4), .int .i64 (Z k 5), .int .i64 (Z k 6), .int .i64 (Z k 7)]
/-- The places of those from the number z on. -/
def rest (Z : Nat → Nat → Int) (n : Nat) (z : Int) : List Nat := (List.range n).filter (fun k => decide (z ≤ Z k 0))
/-- A slice of the call's own (nil, where there is none) that holds the parcels L of Z. -/
def Walks (w : World) (base : Nat) (v : Value) (L : List Nat) (Z : Nat → Nat → Int) : Prop := w.ownsRow base 114 8 v L.length (L.flatMap (eight Z))

theorem info_parts8 : ∃ i, Try.prog.info? 114 = some i ∧ i.zero = some (.agg #[.int .i64 0, .int .i64 0, .int .i64 0, .int .i64 0, .int .i64 0, .int .i64 0, .int .i64 0, .int .i64 0]) ∧ i.size = 8 ∧ i.bytes = 64 := by
  obtain ⟨i, hi, hzz⟩ := Option.map_eq_some_iff.1 Try.info114
  simp only [Prod.mk.injEq] at hzz
  exact ⟨i, hi, hzz.1, hzz.2.1, hzz.2.2⟩

theorem rest_next (Z : Nat → Nat → Int) (k : Nat) (z : Int) : rest Z (k + 1) z = rest Z k z ++ (if z ≤ Z k 0 then [k] else []) := by
  unfold rest
  rw [List.range_succ, List.filter_append]
  congr 1
  by_cases h : z ≤ Z k 0 <;> simp [h]
theorem rest_len (Z : Nat → Nat → Int) (k : Nat) (z : Int) : (rest Z k z).length ≤ k := by
  have := (List.filter_sublist (p := fun k => decide (z ≤ Z k 0)) (l := List.range k)).length_le
  rw [List.length_range] at this
  exact this

end Go.Proofs.Ytlbjgecjonegkaa.P8
