/-
  No cell of these rows narrows 'for every input' (looked for: loops, veiled, ifaces, maps, wideKeys, modest, calm, conditions, laid).
  DERIVED. THE GIVEN ROWS OF THIS SEAT. 4 by the template 'for every input the law returns true; each argument reads behind the call as it read before'; 0 by the template 'total and deterministic' (their statements: YtgjapdjidighlaaTotals.lean).
  GIVEN WITH THE SEED: the statements are not yours to turn. If you find one false, say at which input.
  Laid BY PROGRAM, IN A SANDBOX (cutbox-rows.mjs): the forced cells as the released guide's own fill.sh prints them over the translation fa401645df85d8f3… (all of the seat's roots in one cut). By AI agents, Wed Nov 11 2026. No macro, syntax, notation, axiom, sorry.
-/
import Derived.Test.YtgjapdjidighlaaChecked
import GoSem.Claim
import GoSem.ClaimJoined
import GoSem.ClaimMapViews
import Derived.JoinedTies
import Derived.KernelRfl
namespace Go.Proofs.Ytgjapdjidighlaa
/- THE CELL 'sum', in the pinned program and in every row, IS THE sha256 OF THE DUMP (.gsa) THAT YtgjapdjidighlaaProg.lean LOADS. Nothing in Lean hashes anything: it is a label: what it is worth is what the hold of that sum in a sandbox is worth. -/
noncomputable def Try.pinned : Pinned := { name := "ytgjapdjidighlaa", sum := "fa401645df85d8f34488123866d1f40f5958273c8bd73a37ad00850408460eae", checked := Try.checked }
namespace Rows
def none {H : Type} : Left H := { results := [], args := [] }

/-- 'laws.FnExactGwyNew': WHATEVER THE INPUT: true; the input reads as it did. -/
def fnExactGwyNewSpec : ChangeSpec := { name := "fnExactGwyNew", fn := fun _ => fun
  | [d1, d2] => { results := [.lit (.bool true)], args := [d1, d2] }
  | _ => none }
def fnExactGwyNewRow : OpenClaim := { program := "ytgjapdjidighlaa", sum := "fa401645df85d8f34488123866d1f40f5958273c8bd73a37ad00850408460eae", func := "loop.example/landmarch/laws.FnExactGwyNew", spec := "fnExactGwyNew", apart := false }
def FnExactGwyNewSaid : Prop := fnExactGwyNewRow.holds Try.pinned (OpenSpec.ofChange fnExactGwyNewSpec)

/-- ITS FALSE NEIGHBOUR: 'it returns false'. Refute it at one input. -/
def fnExactGwyNewWrong : ChangeSpec := { name := "fnExactGwyNew", fn := fun _ => fun
  | [d1, d2] => { results := [.lit (.bool false)], args := [d1, d2] }
  | _ => none }
def FnExactGwyNewWrongFalsely : Prop := fnExactGwyNewRow.holds Try.pinned (OpenSpec.ofChange fnExactGwyNewWrong)

/-- 'laws.FnExactGwyOk': WHATEVER THE INPUT: true; the input reads as it did. -/
def fnExactGwyOkSpec : ChangeSpec := { name := "fnExactGwyOk", fn := fun _ => fun
  | [d1, d2] => { results := [.lit (.bool true)], args := [d1, d2] }
  | _ => none }
def fnExactGwyOkRow : OpenClaim := { program := "ytgjapdjidighlaa", sum := "fa401645df85d8f34488123866d1f40f5958273c8bd73a37ad00850408460eae", func := "loop.example/landmarch/laws.FnExactGwyOk", spec := "fnExactGwyOk", unfollowed := true, recurses := true, apart := false }
def FnExactGwyOkSaid : Prop := fnExactGwyOkRow.holds Try.pinned (OpenSpec.ofChange fnExactGwyOkSpec)

/-- ITS FALSE NEIGHBOUR: 'it returns false'. Refute it at one input. -/
def fnExactGwyOkWrong : ChangeSpec := { name := "fnExactGwyOk", fn := fun _ => fun
  | [d1, d2] => { results := [.lit (.bool false)], args := [d1, d2] }
  | _ => none }
def FnExactGwyOkWrongFalsely : Prop := fnExactGwyOkRow.holds Try.pinned (OpenSpec.ofChange fnExactGwyOkWrong)

/-- 'laws.FnExactGwyAsk': WHATEVER THE INPUT: true; the input reads as it did. -/
def fnExactGwyAskSpec : ChangeSpec := { name := "fnExactGwyAsk", fn := fun _ => fun
  | [d1, d2, d3, d4, d5, d6] => { results := [.lit (.bool true)], args := [d1, d2, d3, d4, d5, d6] }
  | _ => none }
def fnExactGwyAskRow : OpenClaim := { program := "ytgjapdjidighlaa", sum := "fa401645df85d8f34488123866d1f40f5958273c8bd73a37ad00850408460eae", func := "loop.example/landmarch/laws.FnExactGwyAsk", spec := "fnExactGwyAsk", unfollowed := true, recurses := true, apart := false }
def FnExactGwyAskSaid : Prop := fnExactGwyAskRow.holds Try.pinned (OpenSpec.ofChange fnExactGwyAskSpec)

/-- ITS FALSE NEIGHBOUR: 'it returns false'. Refute it at one input. -/
def fnExactGwyAskWrong : ChangeSpec := { name := "fnExactGwyAsk", fn := fun _ => fun
  | [d1, d2, d3, d4, d5, d6] => { results := [.lit (.bool false)], args := [d1, d2, d3, d4, d5, d6] }
  | _ => none }
def FnExactGwyAskWrongFalsely : Prop := fnExactGwyAskRow.holds Try.pinned (OpenSpec.ofChange fnExactGwyAskWrong)

/-- 'laws.FnExactGwySay': WHATEVER THE INPUT: true; the input reads as it did. -/
def fnExactGwySaySpec : ChangeSpec := { name := "fnExactGwySay", fn := fun _ => fun
  | [d1, d2, d3, d4, d5] => { results := [.lit (.bool true)], args := [d1, d2, d3, d4, d5] }
  | _ => none }
def fnExactGwySayRow : OpenClaim := { program := "ytgjapdjidighlaa", sum := "fa401645df85d8f34488123866d1f40f5958273c8bd73a37ad00850408460eae", func := "loop.example/landmarch/laws.FnExactGwySay", spec := "fnExactGwySay", unfollowed := true, recurses := true, apart := false }
def FnExactGwySaySaid : Prop := fnExactGwySayRow.holds Try.pinned (OpenSpec.ofChange fnExactGwySaySpec)

/-- ITS FALSE NEIGHBOUR: 'it returns false'. Refute it at one input. -/
def fnExactGwySayWrong : ChangeSpec := { name := "fnExactGwySay", fn := fun _ => fun
  | [d1, d2, d3, d4, d5] => { results := [.lit (.bool false)], args := [d1, d2, d3, d4, d5] }
  | _ => none }
def FnExactGwySayWrongFalsely : Prop := fnExactGwySayRow.holds Try.pinned (OpenSpec.ofChange fnExactGwySayWrong)

/- THE SECOND FORM. 'bulk': how many values and letters a reading holds, each counted each time it is reached (what is shared counts as often as it is met; a slice's spare places count too). A statement '..UptoSaid' is the law's where the arguments, and the package variables that the reading takes, are together of bulk at most 1048576: NARROWER than '..Said'. Prove '..Said' where nothing that the law and all that it calls make is longer than what came in: it says more and counts as full. Else prove '..UptoSaid'. A law counts once. -/
mutual
def uptoBulk {H : Type} : DataW H → Nat
  | .lit (.string bytes) => bytes.length + 1
  | .lit _ => 1
  | .nil => 1
  | .ptr d => uptoBulk d + 1
  | .slice elems spare => uptoBulkAll elems + uptoBulkAll spare + 1
  | .agg parts => uptoBulkAll parts + 1
  | .iface _ d => uptoBulk d + 1
  | .map entries => uptoBulkEntries entries + 1
  | .held _ => 1
def uptoBulkAll {H : Type} : List (DataW H) → Nat
  | [] => 0
  | d :: r => uptoBulk d + uptoBulkAll r
def uptoBulkEntries {H : Type} : List (Lit × DataW H) → Nat
  | [] => 0
  | x :: r => uptoBulkEntry x + uptoBulkEntries r
def uptoBulkEntry {H : Type} : Lit × DataW H → Nat
  | (.string bytes, d) => bytes.length + uptoBulk d + 1
  | (_, d) => uptoBulk d + 1
 end
def uptoSmall : (H : Type) → List (DataW H) → Bool := fun _ ds => decide (uptoBulkAll ds ≤ 1048576)
def OpenSpec.upto (s : _root_.Go.ChangeSpec) : _root_.Go.OpenSpec := { _root_.Go.OpenSpec.ofChange s with cond := some uptoSmall }

/-- 'laws.FnExactGwyNew', WHERE WHAT IT READS IS OF BULK AT MOST 1048576: true; the input reads as it did. -/
def fnExactGwyNewUptoRow : OpenClaim := { program := "ytgjapdjidighlaa", sum := "fa401645df85d8f34488123866d1f40f5958273c8bd73a37ad00850408460eae", func := "loop.example/landmarch/laws.FnExactGwyNew", spec := "fnExactGwyNew", apart := false, narrowed := true }
def FnExactGwyNewUptoSaid : Prop := fnExactGwyNewUptoRow.holds Try.pinned (OpenSpec.upto fnExactGwyNewSpec)

/-- 'laws.FnExactGwyOk', WHERE WHAT IT READS IS OF BULK AT MOST 1048576: true; the input reads as it did. -/
def fnExactGwyOkUptoRow : OpenClaim := { program := "ytgjapdjidighlaa", sum := "fa401645df85d8f34488123866d1f40f5958273c8bd73a37ad00850408460eae", func := "loop.example/landmarch/laws.FnExactGwyOk", spec := "fnExactGwyOk", unfollowed := true, recurses := true, apart := false, narrowed := true }
def FnExactGwyOkUptoSaid : Prop := fnExactGwyOkUptoRow.holds Try.pinned (OpenSpec.upto fnExactGwyOkSpec)

/-- 'laws.FnExactGwyAsk', WHERE WHAT IT READS IS OF BULK AT MOST 1048576: true; the input reads as it did. -/
def fnExactGwyAskUptoRow : OpenClaim := { program := "ytgjapdjidighlaa", sum := "fa401645df85d8f34488123866d1f40f5958273c8bd73a37ad00850408460eae", func := "loop.example/landmarch/laws.FnExactGwyAsk", spec := "fnExactGwyAsk", unfollowed := true, recurses := true, apart := false, narrowed := true }
def FnExactGwyAskUptoSaid : Prop := fnExactGwyAskUptoRow.holds Try.pinned (OpenSpec.upto fnExactGwyAskSpec)

/-- 'laws.FnExactGwySay', WHERE WHAT IT READS IS OF BULK AT MOST 1048576: true; the input reads as it did. -/
def fnExactGwySayUptoRow : OpenClaim := { program := "ytgjapdjidighlaa", sum := "fa401645df85d8f34488123866d1f40f5958273c8bd73a37ad00850408460eae", func := "loop.example/landmarch/laws.FnExactGwySay", spec := "fnExactGwySay", unfollowed := true, recurses := true, apart := false, narrowed := true }
def FnExactGwySayUptoSaid : Prop := fnExactGwySayUptoRow.holds Try.pinned (OpenSpec.upto fnExactGwySaySpec)

end Rows
end Go.Proofs.Ytgjapdjidighlaa
