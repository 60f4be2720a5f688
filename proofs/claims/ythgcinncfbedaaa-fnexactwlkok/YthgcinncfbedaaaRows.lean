/-
  No cell of these rows narrows 'for every input' (looked for: loops, veiled, ifaces, maps, wideKeys, modest, calm, conditions, laid).
  DERIVED. THE GIVEN ROWS OF THIS SEAT. 5 by the template 'for every input the law returns true; each argument reads behind the call as it read before'; 0 by the template 'total and deterministic' (their statements: YthgcinncfbedaaaTotals.lean).
  GIVEN WITH THE SEED: the statements are not yours to turn. If you find one false, say at which input.
  Laid BY PROGRAM, IN A SANDBOX (cutbox-rows.mjs): the forced cells as the released guide's own fill.sh prints them over the translation 31ae4136db1620be… (all of the seat's roots in one cut). By AI agents, Wed Nov 11 2026. No macro, syntax, notation, axiom, sorry.
-/
import Derived.Test.YthgcinncfbedaaaChecked
import GoSem.Claim
import GoSem.ClaimJoined
import GoSem.ClaimMapViews
import Derived.JoinedTies
import Derived.KernelRfl
namespace Go.Proofs.Ythgcinncfbedaaa
/- THE CELL 'sum', in the pinned program and in every row, IS THE sha256 OF THE DUMP (.gsa) THAT YthgcinncfbedaaaProg.lean LOADS. Nothing in Lean hashes anything: it is a label: what it is worth is what the hold of that sum in a sandbox is worth. -/
noncomputable def Try.pinned : Pinned := { name := "ythgcinncfbedaaa", sum := "31ae4136db1620be5188c37e55272e4e48b8737cb87445a6b3b2680029a3fb36", checked := Try.checked }
namespace Rows
def none {H : Type} : Left H := { results := [], args := [] }

/-- 'laws.FnExactPlcOk': WHATEVER THE INPUT: true; the input reads as it did. -/
def fnExactPlcOkSpec : ChangeSpec := { name := "fnExactPlcOk", fn := fun _ => fun
  | [d] => { results := [.lit (.bool true)], args := [d] }
  | _ => none }
def fnExactPlcOkRow : OpenClaim := { program := "ythgcinncfbedaaa", sum := "31ae4136db1620be5188c37e55272e4e48b8737cb87445a6b3b2680029a3fb36", func := "loop.example/landmarch/laws.FnExactPlcOk", spec := "fnExactPlcOk", apart := false }
def FnExactPlcOkSaid : Prop := fnExactPlcOkRow.holds Try.pinned (OpenSpec.ofChange fnExactPlcOkSpec)

/-- ITS FALSE NEIGHBOUR: 'it returns false'. Refute it at one input. -/
def fnExactPlcOkWrong : ChangeSpec := { name := "fnExactPlcOk", fn := fun _ => fun
  | [d] => { results := [.lit (.bool false)], args := [d] }
  | _ => none }
def FnExactPlcOkWrongFalsely : Prop := fnExactPlcOkRow.holds Try.pinned (OpenSpec.ofChange fnExactPlcOkWrong)

/-- 'laws.FnExactPlcCell': WHATEVER THE INPUT: true; the input reads as it did. -/
def fnExactPlcCellSpec : ChangeSpec := { name := "fnExactPlcCell", fn := fun _ => fun
  | [d1, d2] => { results := [.lit (.bool true)], args := [d1, d2] }
  | _ => none }
def fnExactPlcCellRow : OpenClaim := { program := "ythgcinncfbedaaa", sum := "31ae4136db1620be5188c37e55272e4e48b8737cb87445a6b3b2680029a3fb36", func := "loop.example/landmarch/laws.FnExactPlcCell", spec := "fnExactPlcCell", apart := false }
def FnExactPlcCellSaid : Prop := fnExactPlcCellRow.holds Try.pinned (OpenSpec.ofChange fnExactPlcCellSpec)

/-- ITS FALSE NEIGHBOUR: 'it returns false'. Refute it at one input. -/
def fnExactPlcCellWrong : ChangeSpec := { name := "fnExactPlcCell", fn := fun _ => fun
  | [d1, d2] => { results := [.lit (.bool false)], args := [d1, d2] }
  | _ => none }
def FnExactPlcCellWrongFalsely : Prop := fnExactPlcCellRow.holds Try.pinned (OpenSpec.ofChange fnExactPlcCellWrong)

/-- 'laws.FnExactPlcSide': WHATEVER THE INPUT: true; the input reads as it did. -/
def fnExactPlcSideSpec : ChangeSpec := { name := "fnExactPlcSide", fn := fun _ => fun
  | [d1, d2, d3] => { results := [.lit (.bool true)], args := [d1, d2, d3] }
  | _ => none }
def fnExactPlcSideRow : OpenClaim := { program := "ythgcinncfbedaaa", sum := "31ae4136db1620be5188c37e55272e4e48b8737cb87445a6b3b2680029a3fb36", func := "loop.example/landmarch/laws.FnExactPlcSide", spec := "fnExactPlcSide", apart := false }
def FnExactPlcSideSaid : Prop := fnExactPlcSideRow.holds Try.pinned (OpenSpec.ofChange fnExactPlcSideSpec)

/-- ITS FALSE NEIGHBOUR: 'it returns false'. Refute it at one input. -/
def fnExactPlcSideWrong : ChangeSpec := { name := "fnExactPlcSide", fn := fun _ => fun
  | [d1, d2, d3] => { results := [.lit (.bool false)], args := [d1, d2, d3] }
  | _ => none }
def FnExactPlcSideWrongFalsely : Prop := fnExactPlcSideRow.holds Try.pinned (OpenSpec.ofChange fnExactPlcSideWrong)

/-- 'laws.FnExactPlcEdge': WHATEVER THE INPUT: true; the input reads as it did. -/
def fnExactPlcEdgeSpec : ChangeSpec := { name := "fnExactPlcEdge", fn := fun _ => fun
  | [d1, d2, d3] => { results := [.lit (.bool true)], args := [d1, d2, d3] }
  | _ => none }
def fnExactPlcEdgeRow : OpenClaim := { program := "ythgcinncfbedaaa", sum := "31ae4136db1620be5188c37e55272e4e48b8737cb87445a6b3b2680029a3fb36", func := "loop.example/landmarch/laws.FnExactPlcEdge", spec := "fnExactPlcEdge", apart := false }
def FnExactPlcEdgeSaid : Prop := fnExactPlcEdgeRow.holds Try.pinned (OpenSpec.ofChange fnExactPlcEdgeSpec)

/-- ITS FALSE NEIGHBOUR: 'it returns false'. Refute it at one input. -/
def fnExactPlcEdgeWrong : ChangeSpec := { name := "fnExactPlcEdge", fn := fun _ => fun
  | [d1, d2, d3] => { results := [.lit (.bool false)], args := [d1, d2, d3] }
  | _ => none }
def FnExactPlcEdgeWrongFalsely : Prop := fnExactPlcEdgeRow.holds Try.pinned (OpenSpec.ofChange fnExactPlcEdgeWrong)

/-- 'laws.FnExactWlkOk': WHATEVER THE INPUT: true; the input reads as it did. -/
def fnExactWlkOkSpec : ChangeSpec := { name := "fnExactWlkOk", fn := fun _ => fun
  | [d1, d2] => { results := [.lit (.bool true)], args := [d1, d2] }
  | _ => none }
def fnExactWlkOkRow : OpenClaim := { program := "ythgcinncfbedaaa", sum := "31ae4136db1620be5188c37e55272e4e48b8737cb87445a6b3b2680029a3fb36", func := "loop.example/landmarch/laws.FnExactWlkOk", spec := "fnExactWlkOk", apart := false }
def FnExactWlkOkSaid : Prop := fnExactWlkOkRow.holds Try.pinned (OpenSpec.ofChange fnExactWlkOkSpec)

/-- ITS FALSE NEIGHBOUR: 'it returns false'. Refute it at one input. -/
def fnExactWlkOkWrong : ChangeSpec := { name := "fnExactWlkOk", fn := fun _ => fun
  | [d1, d2] => { results := [.lit (.bool false)], args := [d1, d2] }
  | _ => none }
def FnExactWlkOkWrongFalsely : Prop := fnExactWlkOkRow.holds Try.pinned (OpenSpec.ofChange fnExactWlkOkWrong)

/- THE SECOND FORM. 'bulk': how many values and letters a reading holds, each counted each time it is reached (what is shared counts as often as it is met; a slice's spare places count too). A statement '..UptoSaid' is the law's where the arguments, and the package variables that the reading takes, are together of bulk at most 1048576: NARROWER than '..Said'. Prove '..Said' where nothing that the law and all that it calls make is longer than what came in: it says more and counts as full. Else prove '..UptoSaid'. A law counts once. -/
mutual
def uptoBulk {H : Type} : DataW H → Nat
  | .lit (.string bytes) => bytes.length + 1
  | .lit _ => 1
  | .nil => 1
  | .ptr d => uptoBulk d + 1
  | .slice elems spare => uptoBulkAll elems + uptoBulkAll spare + 1
  | .agg parts => uptoBulkAll parts + 1
  | .iface _ d => uptoBulk d + 1
  | .map entries => uptoBulkEntries entries + 1
  | .held _ => 1
def uptoBulkAll {H : Type} : List (DataW H) → Nat
  | [] => 0
  | d :: r => uptoBulk d + uptoBulkAll r
def uptoBulkEntries {H : Type} : List (Lit × DataW H) → Nat
  | [] => 0
  | x :: r => uptoBulkEntry x + uptoBulkEntries r
def uptoBulkEntry {H : Type} : Lit × DataW H → Nat
  | (.string bytes, d) => bytes.length + uptoBulk d + 1
  | (_, d) => uptoBulk d + 1
 end
def uptoSmall : (H : Type) → List (DataW H) → Bool := fun _ ds => decide (uptoBulkAll ds ≤ 1048576)
def OpenSpec.upto (s : _root_.Go.ChangeSpec) : _root_.Go.OpenSpec := { _root_.Go.OpenSpec.ofChange s with cond := some uptoSmall }

/-- 'laws.FnExactPlcOk', WHERE WHAT IT READS IS OF BULK AT MOST 1048576: true; the input reads as it did. -/
def fnExactPlcOkUptoRow : OpenClaim := { program := "ythgcinncfbedaaa", sum := "31ae4136db1620be5188c37e55272e4e48b8737cb87445a6b3b2680029a3fb36", func := "loop.example/landmarch/laws.FnExactPlcOk", spec := "fnExactPlcOk", apart := false, narrowed := true }
def FnExactPlcOkUptoSaid : Prop := fnExactPlcOkUptoRow.holds Try.pinned (OpenSpec.upto fnExactPlcOkSpec)

/-- 'laws.FnExactPlcCell', WHERE WHAT IT READS IS OF BULK AT MOST 1048576: true; the input reads as it did. -/
def fnExactPlcCellUptoRow : OpenClaim := { program := "ythgcinncfbedaaa", sum := "31ae4136db1620be5188c37e55272e4e48b8737cb87445a6b3b2680029a3fb36", func := "loop.example/landmarch/laws.FnExactPlcCell", spec := "fnExactPlcCell", apart := false, narrowed := true }
def FnExactPlcCellUptoSaid : Prop := fnExactPlcCellUptoRow.holds Try.pinned (OpenSpec.upto fnExactPlcCellSpec)

/-- 'laws.FnExactPlcSide', WHERE WHAT IT READS IS OF BULK AT MOST 1048576: true; the input reads as it did. -/
def fnExactPlcSideUptoRow : OpenClaim := { program := "ythgcinncfbedaaa", sum := "31ae4136db1620be5188c37e55272e4e48b8737cb87445a6b3b2680029a3fb36", func := "loop.example/landmarch/laws.FnExactPlcSide", spec := "fnExactPlcSide", apart := false, narrowed := true }
def FnExactPlcSideUptoSaid : Prop := fnExactPlcSideUptoRow.holds Try.pinned (OpenSpec.upto fnExactPlcSideSpec)

/-- 'laws.FnExactPlcEdge', WHERE WHAT IT READS IS OF BULK AT MOST 1048576: true; the input reads as it did. -/
def fnExactPlcEdgeUptoRow : OpenClaim := { program := "ythgcinncfbedaaa", sum := "31ae4136db1620be5188c37e55272e4e48b8737cb87445a6b3b2680029a3fb36", func := "loop.example/landmarch/laws.FnExactPlcEdge", spec := "fnExactPlcEdge", apart := false, narrowed := true }
def FnExactPlcEdgeUptoSaid : Prop := fnExactPlcEdgeUptoRow.holds Try.pinned (OpenSpec.upto fnExactPlcEdgeSpec)

/-- 'laws.FnExactWlkOk', WHERE WHAT IT READS IS OF BULK AT MOST 1048576: true; the input reads as it did. -/
def fnExactWlkOkUptoRow : OpenClaim := { program := "ythgcinncfbedaaa", sum := "31ae4136db1620be5188c37e55272e4e48b8737cb87445a6b3b2680029a3fb36", func := "loop.example/landmarch/laws.FnExactWlkOk", spec := "fnExactWlkOk", apart := false, narrowed := true }
def FnExactWlkOkUptoSaid : Prop := fnExactWlkOkUptoRow.holds Try.pinned (OpenSpec.upto fnExactWlkOkSpec)

end Rows
end Go.Proofs.Ythgcinncfbedaaa
