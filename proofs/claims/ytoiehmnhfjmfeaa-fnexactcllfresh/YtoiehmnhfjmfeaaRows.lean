/-
  No cell of these rows narrows 'for every input' (looked for: loops, veiled, ifaces, maps, wideKeys, modest, calm, conditions, laid).
  DERIVED. THE GIVEN ROWS OF THIS SEAT. 4 by the template 'for every input the law returns true; each argument reads behind the call as it read before'; 0 by the template 'total and deterministic' (their statements: YtoiehmnhfjmfeaaTotals.lean).
  GIVEN WITH THE SEED: the statements are not yours to turn. If you find one false, say at which input.
  Laid BY PROGRAM, IN A SANDBOX (cutbox-rows.mjs): the forced cells as the released guide's own fill.sh prints them over the translation fcf28ca5eafd510f… (all of the seat's roots in one cut). By AI agents, Wed Nov 11 2026. No macro, syntax, notation, axiom, sorry.
-/
import Derived.Test.YtoiehmnhfjmfeaaChecked
import GoSem.Claim
import GoSem.ClaimJoined
import GoSem.ClaimMapViews
import Derived.JoinedTies
import Derived.KernelRfl
namespace Go.Proofs.Ytoiehmnhfjmfeaa
/- THE CELL 'sum', in the pinned program and in every row, IS THE sha256 OF THE DUMP (.gsa) THAT YtoiehmnhfjmfeaaProg.lean LOADS. Nothing in Lean hashes anything: it is a label: what it is worth is what the hold of that sum in a sandbox is worth. -/
noncomputable def Try.pinned : Pinned := { name := "ytoiehmnhfjmfeaa", sum := "fcf28ca5eafd510f9eaa4df9bab931c54a0d041f6d50e32edcab2487797a5cf9", checked := Try.checked }
namespace Rows
def none {H : Type} : Left H := { results := [], args := [] }

/-- 'laws.FnExactCllNew': WHATEVER THE INPUT: true; the input reads as it did. -/
def fnExactCllNewSpec : ChangeSpec := { name := "fnExactCllNew", fn := fun _ => fun
  | [d1, d2, d3] => { results := [.lit (.bool true)], args := [d1, d2, d3] }
  | _ => none }
def fnExactCllNewRow : OpenClaim := { program := "ytoiehmnhfjmfeaa", sum := "fcf28ca5eafd510f9eaa4df9bab931c54a0d041f6d50e32edcab2487797a5cf9", func := "loop.example/landmarch/laws.FnExactCllNew", spec := "fnExactCllNew", apart := false }
def FnExactCllNewSaid : Prop := fnExactCllNewRow.holds Try.pinned (OpenSpec.ofChange fnExactCllNewSpec)

/-- ITS FALSE NEIGHBOUR: 'it returns false'. Refute it at one input. -/
def fnExactCllNewWrong : ChangeSpec := { name := "fnExactCllNew", fn := fun _ => fun
  | [d1, d2, d3] => { results := [.lit (.bool false)], args := [d1, d2, d3] }
  | _ => none }
def FnExactCllNewWrongFalsely : Prop := fnExactCllNewRow.holds Try.pinned (OpenSpec.ofChange fnExactCllNewWrong)

/-- 'laws.FnExactCllOk': WHATEVER THE INPUT: true; the input reads as it did. -/
def fnExactCllOkSpec : ChangeSpec := { name := "fnExactCllOk", fn := fun _ => fun
  | [d1, d2] => { results := [.lit (.bool true)], args := [d1, d2] }
  | _ => none }
def fnExactCllOkRow : OpenClaim := { program := "ytoiehmnhfjmfeaa", sum := "fcf28ca5eafd510f9eaa4df9bab931c54a0d041f6d50e32edcab2487797a5cf9", func := "loop.example/landmarch/laws.FnExactCllOk", spec := "fnExactCllOk", unfollowed := true, recurses := true, apart := false }
def FnExactCllOkSaid : Prop := fnExactCllOkRow.holds Try.pinned (OpenSpec.ofChange fnExactCllOkSpec)

/-- ITS FALSE NEIGHBOUR: 'it returns false'. Refute it at one input. -/
def fnExactCllOkWrong : ChangeSpec := { name := "fnExactCllOk", fn := fun _ => fun
  | [d1, d2] => { results := [.lit (.bool false)], args := [d1, d2] }
  | _ => none }
def FnExactCllOkWrongFalsely : Prop := fnExactCllOkRow.holds Try.pinned (OpenSpec.ofChange fnExactCllOkWrong)

/-- 'laws.FnExactCllFresh': WHATEVER THE INPUT: true; the input reads as it did. -/
def fnExactCllFreshSpec : ChangeSpec := { name := "fnExactCllFresh", fn := fun _ => fun
  | [d1, d2, d3] => { results := [.lit (.bool true)], args := [d1, d2, d3] }
  | _ => none }
def fnExactCllFreshRow : OpenClaim := { program := "ytoiehmnhfjmfeaa", sum := "fcf28ca5eafd510f9eaa4df9bab931c54a0d041f6d50e32edcab2487797a5cf9", func := "loop.example/landmarch/laws.FnExactCllFresh", spec := "fnExactCllFresh", unfollowed := true, recurses := true, apart := false }
def FnExactCllFreshSaid : Prop := fnExactCllFreshRow.holds Try.pinned (OpenSpec.ofChange fnExactCllFreshSpec)

/-- ITS FALSE NEIGHBOUR: 'it returns false'. Refute it at one input. -/
def fnExactCllFreshWrong : ChangeSpec := { name := "fnExactCllFresh", fn := fun _ => fun
  | [d1, d2, d3] => { results := [.lit (.bool false)], args := [d1, d2, d3] }
  | _ => none }
def FnExactCllFreshWrongFalsely : Prop := fnExactCllFreshRow.holds Try.pinned (OpenSpec.ofChange fnExactCllFreshWrong)

/-- 'laws.FnExactCllCoins': WHATEVER THE INPUT: true; the input reads as it did. -/
def fnExactCllCoinsSpec : ChangeSpec := { name := "fnExactCllCoins", fn := fun _ => fun
  | [d1, d2] => { results := [.lit (.bool true)], args := [d1, d2] }
  | _ => none }
def fnExactCllCoinsRow : OpenClaim := { program := "ytoiehmnhfjmfeaa", sum := "fcf28ca5eafd510f9eaa4df9bab931c54a0d041f6d50e32edcab2487797a5cf9", func := "loop.example/landmarch/laws.FnExactCllCoins", spec := "fnExactCllCoins", unfollowed := true, recurses := true, apart := false }
def FnExactCllCoinsSaid : Prop := fnExactCllCoinsRow.holds Try.pinned (OpenSpec.ofChange fnExactCllCoinsSpec)

/-- ITS FALSE NEIGHBOUR: 'it returns false'. Refute it at one input. -/
def fnExactCllCoinsWrong : ChangeSpec := { name := "fnExactCllCoins", fn := fun _ => fun
  | [d1, d2] => { results := [.lit (.bool false)], args := [d1, d2] }
  | _ => none }
def FnExactCllCoinsWrongFalsely : Prop := fnExactCllCoinsRow.holds Try.pinned (OpenSpec.ofChange fnExactCllCoinsWrong)

/- THE SECOND FORM. 'bulk': how many values and letters a reading holds, each counted each time it is reached (what is shared counts as often as it is met; a slice's spare places count too). A statement '..UptoSaid' is the law's where the arguments, and the package variables that the reading takes, are together of bulk at most 1048576: NARROWER than '..Said'. Prove '..Said' where nothing that the law and all that it calls make is longer than what came in: it says more and counts as full. Else prove '..UptoSaid'. A law counts once. -/
mutual
def uptoBulk {H : Type} : DataW H → Nat
  | .lit (.string bytes) => bytes.length + 1
  | .lit _ => 1
  | .nil => 1
  | .ptr d => uptoBulk d + 1
  | .slice elems spare => uptoBulkAll elems + uptoBulkAll spare + 1
  | .agg parts => uptoBulkAll parts + 1
  | .iface _ d => uptoBulk d + 1
  | .map entries => uptoBulkEntries entries + 1
  | .held _ => 1
def uptoBulkAll {H : Type} : List (DataW H) → Nat
  | [] => 0
  | d :: r => uptoBulk d + uptoBulkAll r
def uptoBulkEntries {H : Type} : List (Lit × DataW H) → Nat
  | [] => 0
  | x :: r => uptoBulkEntry x + uptoBulkEntries r
def uptoBulkEntry {H : Type} : Lit × DataW H → Nat
  | (.string bytes, d) => bytes.length + uptoBulk d + 1
  | (_, d) => uptoBulk d + 1
 end
def uptoSmall : (H : Type) → List (DataW H) → Bool := fun _ ds => decide (uptoBulkAll ds ≤ 1048576)
def OpenSpec.upto (s : _root_.Go.ChangeSpec) : _root_.Go.OpenSpec := { _root_.Go.OpenSpec.ofChange s with cond := some uptoSmall }

/-- 'laws.FnExactCllNew', WHERE WHAT IT READS IS OF BULK AT MOST 1048576: true; the input reads as it did. -/
def fnExactCllNewUptoRow : OpenClaim := { program := "ytoiehmnhfjmfeaa", sum := "fcf28ca5eafd510f9eaa4df9bab931c54a0d041f6d50e32edcab2487797a5cf9", func := "loop.example/landmarch/laws.FnExactCllNew", spec := "fnExactCllNew", apart := false, narrowed := true }
def FnExactCllNewUptoSaid : Prop := fnExactCllNewUptoRow.holds Try.pinned (OpenSpec.upto fnExactCllNewSpec)

/-- 'laws.FnExactCllOk', WHERE WHAT IT READS IS OF BULK AT MOST 1048576: true; the input reads as it did. -/
def fnExactCllOkUptoRow : OpenClaim := { program := "ytoiehmnhfjmfeaa", sum := "fcf28ca5eafd510f9eaa4df9bab931c54a0d041f6d50e32edcab2487797a5cf9", func := "loop.example/landmarch/laws.FnExactCllOk", spec := "fnExactCllOk", unfollowed := true, recurses := true, apart := false, narrowed := true }
def FnExactCllOkUptoSaid : Prop := fnExactCllOkUptoRow.holds Try.pinned (OpenSpec.upto fnExactCllOkSpec)

/-- 'laws.FnExactCllFresh', WHERE WHAT IT READS IS OF BULK AT MOST 1048576: true; the input reads as it did. -/
def fnExactCllFreshUptoRow : OpenClaim := { program := "ytoiehmnhfjmfeaa", sum := "fcf28ca5eafd510f9eaa4df9bab931c54a0d041f6d50e32edcab2487797a5cf9", func := "loop.example/landmarch/laws.FnExactCllFresh", spec := "fnExactCllFresh", unfollowed := true, recurses := true, apart := false, narrowed := true }
def FnExactCllFreshUptoSaid : Prop := fnExactCllFreshUptoRow.holds Try.pinned (OpenSpec.upto fnExactCllFreshSpec)

/-- 'laws.FnExactCllCoins', WHERE WHAT IT READS IS OF BULK AT MOST 1048576: true; the input reads as it did. -/
def fnExactCllCoinsUptoRow : OpenClaim := { program := "ytoiehmnhfjmfeaa", sum := "fcf28ca5eafd510f9eaa4df9bab931c54a0d041f6d50e32edcab2487797a5cf9", func := "loop.example/landmarch/laws.FnExactCllCoins", spec := "fnExactCllCoins", unfollowed := true, recurses := true, apart := false, narrowed := true }
def FnExactCllCoinsUptoSaid : Prop := fnExactCllCoinsUptoRow.holds Try.pinned (OpenSpec.upto fnExactCllCoinsSpec)

end Rows
end Go.Proofs.Ytoiehmnhfjmfeaa
