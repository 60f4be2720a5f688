/-
  No cell of these rows narrows 'for every input' (looked for: loops, veiled, ifaces, maps, wideKeys, modest, calm, conditions, laid).
  DERIVED. THE GIVEN ROWS OF THIS SEAT. 4 by the template 'for every input the law returns true; each argument reads behind the call as it read before'; 0 by the template 'total and deterministic' (their statements: YtjgnngiagmkfdaaTotals.lean).
  GIVEN WITH THE SEED: the statements are not yours to turn. If you find one false, say at which input.
  Laid BY PROGRAM, IN A SANDBOX (cutbox-rows.mjs): the forced cells as the released guide's own fill.sh prints them over the translation e471c418556684e9… (all of the seat's roots in one cut). By AI agents, Wed Nov 11 2026. No macro, syntax, notation, axiom, sorry.
-/
import Derived.Test.YtjgnngiagmkfdaaChecked
import GoSem.Claim
import GoSem.ClaimJoined
import GoSem.ClaimMapViews
import Derived.JoinedTies
import Derived.KernelRfl
namespace Go.Proofs.Ytjgnngiagmkfdaa
/- THE CELL 'sum', in the pinned program and in every row, IS THE sha256 OF THE DUMP (.gsa) THAT YtjgnngiagmkfdaaProg.lean LOADS. Nothing in Lean hashes anything: it is a label: what it is worth is what the hold of that sum in a sandbox is worth. -/
noncomputable def Try.pinned : Pinned := { name := "ytjgnngiagmkfdaa", sum := "e471c418556684e98e7442a1ec58dd8dbdab5414d78137bc4ec0dd0b778fd7cd", checked := Try.checked }
namespace Rows
def none {H : Type} : Left H := { results := [], args := [] }

/-- 'laws.FnExactArbNew': WHATEVER THE INPUT: true; the input reads as it did. -/
def fnExactArbNewSpec : ChangeSpec := { name := "fnExactArbNew", fn := fun _ => fun
  | [d] => { results := [.lit (.bool true)], args := [d] }
  | _ => none }
def fnExactArbNewRow : OpenClaim := { program := "ytjgnngiagmkfdaa", sum := "e471c418556684e98e7442a1ec58dd8dbdab5414d78137bc4ec0dd0b778fd7cd", func := "loop.example/landmarch/laws.FnExactArbNew", spec := "fnExactArbNew", apart := false }
def FnExactArbNewSaid : Prop := fnExactArbNewRow.holds Try.pinned (OpenSpec.ofChange fnExactArbNewSpec)

/-- ITS FALSE NEIGHBOUR: 'it returns false'. Refute it at one input. -/
def fnExactArbNewWrong : ChangeSpec := { name := "fnExactArbNew", fn := fun _ => fun
  | [d] => { results := [.lit (.bool false)], args := [d] }
  | _ => none }
def FnExactArbNewWrongFalsely : Prop := fnExactArbNewRow.holds Try.pinned (OpenSpec.ofChange fnExactArbNewWrong)

/-- 'laws.FnExactArbOk': WHATEVER THE INPUT: true; the input reads as it did. -/
def fnExactArbOkSpec : ChangeSpec := { name := "fnExactArbOk", fn := fun _ => fun
  | [d1, d2, d3] => { results := [.lit (.bool true)], args := [d1, d2, d3] }
  | _ => none }
def fnExactArbOkRow : OpenClaim := { program := "ytjgnngiagmkfdaa", sum := "e471c418556684e98e7442a1ec58dd8dbdab5414d78137bc4ec0dd0b778fd7cd", func := "loop.example/landmarch/laws.FnExactArbOk", spec := "fnExactArbOk", apart := false }
def FnExactArbOkSaid : Prop := fnExactArbOkRow.holds Try.pinned (OpenSpec.ofChange fnExactArbOkSpec)

/-- ITS FALSE NEIGHBOUR: 'it returns false'. Refute it at one input. -/
def fnExactArbOkWrong : ChangeSpec := { name := "fnExactArbOk", fn := fun _ => fun
  | [d1, d2, d3] => { results := [.lit (.bool false)], args := [d1, d2, d3] }
  | _ => none }
def FnExactArbOkWrongFalsely : Prop := fnExactArbOkRow.holds Try.pinned (OpenSpec.ofChange fnExactArbOkWrong)

/-- 'laws.FnExactArbGrant': WHATEVER THE INPUT: true; the input reads as it did. -/
def fnExactArbGrantSpec : ChangeSpec := { name := "fnExactArbGrant", fn := fun _ => fun
  | [d1, d2, d3, d4, d5] => { results := [.lit (.bool true)], args := [d1, d2, d3, d4, d5] }
  | _ => none }
def fnExactArbGrantRow : OpenClaim := { program := "ytjgnngiagmkfdaa", sum := "e471c418556684e98e7442a1ec58dd8dbdab5414d78137bc4ec0dd0b778fd7cd", func := "loop.example/landmarch/laws.FnExactArbGrant", spec := "fnExactArbGrant", apart := false }
def FnExactArbGrantSaid : Prop := fnExactArbGrantRow.holds Try.pinned (OpenSpec.ofChange fnExactArbGrantSpec)

/-- ITS FALSE NEIGHBOUR: 'it returns false'. Refute it at one input. -/
def fnExactArbGrantWrong : ChangeSpec := { name := "fnExactArbGrant", fn := fun _ => fun
  | [d1, d2, d3, d4, d5] => { results := [.lit (.bool false)], args := [d1, d2, d3, d4, d5] }
  | _ => none }
def FnExactArbGrantWrongFalsely : Prop := fnExactArbGrantRow.holds Try.pinned (OpenSpec.ofChange fnExactArbGrantWrong)

/-- 'laws.FnExactArbServer': WHATEVER THE INPUT: true; the input reads as it did. -/
def fnExactArbServerSpec : ChangeSpec := { name := "fnExactArbServer", fn := fun _ => fun
  | [d1, d2] => { results := [.lit (.bool true)], args := [d1, d2] }
  | _ => none }
def fnExactArbServerRow : OpenClaim := { program := "ytjgnngiagmkfdaa", sum := "e471c418556684e98e7442a1ec58dd8dbdab5414d78137bc4ec0dd0b778fd7cd", func := "loop.example/landmarch/laws.FnExactArbServer", spec := "fnExactArbServer", apart := false }
def FnExactArbServerSaid : Prop := fnExactArbServerRow.holds Try.pinned (OpenSpec.ofChange fnExactArbServerSpec)

/-- ITS FALSE NEIGHBOUR: 'it returns false'. Refute it at one input. -/
def fnExactArbServerWrong : ChangeSpec := { name := "fnExactArbServer", fn := fun _ => fun
  | [d1, d2] => { results := [.lit (.bool false)], args := [d1, d2] }
  | _ => none }
def FnExactArbServerWrongFalsely : Prop := fnExactArbServerRow.holds Try.pinned (OpenSpec.ofChange fnExactArbServerWrong)

/- THE SECOND FORM. 'bulk': how many values and letters a reading holds, each counted each time it is reached (what is shared counts as often as it is met; a slice's spare places count too). A statement '..UptoSaid' is the law's where the arguments, and the package variables that the reading takes, are together of bulk at most 1048576: NARROWER than '..Said'. Prove '..Said' where nothing that the law and all that it calls make is longer than what came in: it says more and counts as full. Else prove '..UptoSaid'. A law counts once. -/
mutual
def uptoBulk {H : Type} : DataW H → Nat
  | .lit (.string bytes) => bytes.length + 1
  | .lit _ => 1
  | .nil => 1
  | .ptr d => uptoBulk d + 1
  | .slice elems spare => uptoBulkAll elems + uptoBulkAll spare + 1
  | .agg parts => uptoBulkAll parts + 1
  | .iface _ d => uptoBulk d + 1
  | .map entries => uptoBulkEntries entries + 1
  | .held _ => 1
def uptoBulkAll {H : Type} : List (DataW H) → Nat
  | [] => 0
  | d :: r => uptoBulk d + uptoBulkAll r
def uptoBulkEntries {H : Type} : List (Lit × DataW H) → Nat
  | [] => 0
  | x :: r => uptoBulkEntry x + uptoBulkEntries r
def uptoBulkEntry {H : Type} : Lit × DataW H → Nat
  | (.string bytes, d) => bytes.length + uptoBulk d + 1
  | (_, d) => uptoBulk d + 1
 end
def uptoSmall : (H : Type) → List (DataW H) → Bool := fun _ ds => decide (uptoBulkAll ds ≤ 1048576)
def OpenSpec.upto (s : _root_.Go.ChangeSpec) : _root_.Go.OpenSpec := { _root_.Go.OpenSpec.ofChange s with cond := some uptoSmall }

/-- 'laws.FnExactArbNew', WHERE WHAT IT READS IS OF BULK AT MOST 1048576: true; the input reads as it did. -/
def fnExactArbNewUptoRow : OpenClaim := { program := "ytjgnngiagmkfdaa", sum := "e471c418556684e98e7442a1ec58dd8dbdab5414d78137bc4ec0dd0b778fd7cd", func := "loop.example/landmarch/laws.FnExactArbNew", spec := "fnExactArbNew", apart := false, narrowed := true }
def FnExactArbNewUptoSaid : Prop := fnExactArbNewUptoRow.holds Try.pinned (OpenSpec.upto fnExactArbNewSpec)

/-- 'laws.FnExactArbOk', WHERE WHAT IT READS IS OF BULK AT MOST 1048576: true; the input reads as it did. -/
def fnExactArbOkUptoRow : OpenClaim := { program := "ytjgnngiagmkfdaa", sum := "e471c418556684e98e7442a1ec58dd8dbdab5414d78137bc4ec0dd0b778fd7cd", func := "loop.example/landmarch/laws.FnExactArbOk", spec := "fnExactArbOk", apart := false, narrowed := true }
def FnExactArbOkUptoSaid : Prop := fnExactArbOkUptoRow.holds Try.pinned (OpenSpec.upto fnExactArbOkSpec)

/-- 'laws.FnExactArbGrant', WHERE WHAT IT READS IS OF BULK AT MOST 1048576: true; the input reads as it did. -/
def fnExactArbGrantUptoRow : OpenClaim := { program := "ytjgnngiagmkfdaa", sum := "e471c418556684e98e7442a1ec58dd8dbdab5414d78137bc4ec0dd0b778fd7cd", func := "loop.example/landmarch/laws.FnExactArbGrant", spec := "fnExactArbGrant", apart := false, narrowed := true }
def FnExactArbGrantUptoSaid : Prop := fnExactArbGrantUptoRow.holds Try.pinned (OpenSpec.upto fnExactArbGrantSpec)

/-- 'laws.FnExactArbServer', WHERE WHAT IT READS IS OF BULK AT MOST 1048576: true; the input reads as it did. -/
def fnExactArbServerUptoRow : OpenClaim := { program := "ytjgnngiagmkfdaa", sum := "e471c418556684e98e7442a1ec58dd8dbdab5414d78137bc4ec0dd0b778fd7cd", func := "loop.example/landmarch/laws.FnExactArbServer", spec := "fnExactArbServer", apart := false, narrowed := true }
def FnExactArbServerUptoSaid : Prop := fnExactArbServerUptoRow.holds Try.pinned (OpenSpec.upto fnExactArbServerSpec)

end Rows
end Go.Proofs.Ytjgnngiagmkfdaa
