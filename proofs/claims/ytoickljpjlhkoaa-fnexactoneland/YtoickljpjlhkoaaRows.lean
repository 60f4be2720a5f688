/-
  No cell of these rows narrows 'for every input' (looked for: loops, veiled, ifaces, maps, wideKeys, modest, calm, conditions, laid).
  DERIVED. THE GIVEN ROWS OF THIS SEAT. 4 by the template 'for every input the law returns true; each argument reads behind the call as it read before'; 0 by the template 'total and deterministic' (their statements: YtoickljpjlhkoaaTotals.lean).
  GIVEN WITH THE SEED: the statements are not yours to turn. If you find one false, say at which input.
  Laid BY PROGRAM, IN A SANDBOX (cutbox-rows.mjs): the forced cells as the released guide's own fill.sh prints them over the translation f73b64f14dfe2084… (all of the seat's roots in one cut). By AI agents, Wed Nov 11 2026. No macro, syntax, notation, axiom, sorry.
-/
import Derived.Test.YtoickljpjlhkoaaChecked
import GoSem.Claim
import GoSem.ClaimJoined
import GoSem.ClaimMapViews
import Derived.JoinedTies
import Derived.KernelRfl
namespace Go.Proofs.Ytoickljpjlhkoaa
/- THE CELL 'sum', in the pinned program and in every row, IS THE sha256 OF THE DUMP (.gsa) THAT YtoickljpjlhkoaaProg.lean LOADS. Nothing in Lean hashes anything: it is a label: what it is worth is what the hold of that sum in a sandbox is worth. -/
noncomputable def Try.pinned : Pinned := { name := "ytoickljpjlhkoaa", sum := "f73b64f14dfe2084c7d8175538a3ff11035e4fb409149d1695c74f669c1f24fa", checked := Try.checked }
namespace Rows
def none {H : Type} : Left H := { results := [], args := [] }

/-- 'laws.FnExactOneOk': WHATEVER THE INPUT: true; the input reads as it did. -/
def fnExactOneOkSpec : ChangeSpec := { name := "fnExactOneOk", fn := fun _ => fun
  | [d] => { results := [.lit (.bool true)], args := [d] }
  | _ => none }
def fnExactOneOkRow : OpenClaim := { program := "ytoickljpjlhkoaa", sum := "f73b64f14dfe2084c7d8175538a3ff11035e4fb409149d1695c74f669c1f24fa", func := "loop.example/landmarch/laws.FnExactOneOk", spec := "fnExactOneOk", apart := false }
def FnExactOneOkSaid : Prop := fnExactOneOkRow.holds Try.pinned (OpenSpec.ofChange fnExactOneOkSpec)

/-- ITS FALSE NEIGHBOUR: 'it returns false'. Refute it at one input. -/
def fnExactOneOkWrong : ChangeSpec := { name := "fnExactOneOk", fn := fun _ => fun
  | [d] => { results := [.lit (.bool false)], args := [d] }
  | _ => none }
def FnExactOneOkWrongFalsely : Prop := fnExactOneOkRow.holds Try.pinned (OpenSpec.ofChange fnExactOneOkWrong)

/-- 'laws.FnExactOneLand': WHATEVER THE INPUT: true; the input reads as it did. -/
def fnExactOneLandSpec : ChangeSpec := { name := "fnExactOneLand", fn := fun _ => fun
  | [d1, d2] => { results := [.lit (.bool true)], args := [d1, d2] }
  | _ => none }
def fnExactOneLandRow : OpenClaim := { program := "ytoickljpjlhkoaa", sum := "f73b64f14dfe2084c7d8175538a3ff11035e4fb409149d1695c74f669c1f24fa", func := "loop.example/landmarch/laws.FnExactOneLand", spec := "fnExactOneLand", unfollowed := true, recurses := true, apart := false }
def FnExactOneLandSaid : Prop := fnExactOneLandRow.holds Try.pinned (OpenSpec.ofChange fnExactOneLandSpec)

/-- ITS FALSE NEIGHBOUR: 'it returns false'. Refute it at one input. -/
def fnExactOneLandWrong : ChangeSpec := { name := "fnExactOneLand", fn := fun _ => fun
  | [d1, d2] => { results := [.lit (.bool false)], args := [d1, d2] }
  | _ => none }
def FnExactOneLandWrongFalsely : Prop := fnExactOneLandRow.holds Try.pinned (OpenSpec.ofChange fnExactOneLandWrong)

/-- 'laws.FnExactOneDown': WHATEVER THE INPUT: true; the input reads as it did. -/
def fnExactOneDownSpec : ChangeSpec := { name := "fnExactOneDown", fn := fun _ => fun
  | [d1, d2, d3, d4] => { results := [.lit (.bool true)], args := [d1, d2, d3, d4] }
  | _ => none }
def fnExactOneDownRow : OpenClaim := { program := "ytoickljpjlhkoaa", sum := "f73b64f14dfe2084c7d8175538a3ff11035e4fb409149d1695c74f669c1f24fa", func := "loop.example/landmarch/laws.FnExactOneDown", spec := "fnExactOneDown", unfollowed := true, recurses := true, apart := false }
def FnExactOneDownSaid : Prop := fnExactOneDownRow.holds Try.pinned (OpenSpec.ofChange fnExactOneDownSpec)

/-- ITS FALSE NEIGHBOUR: 'it returns false'. Refute it at one input. -/
def fnExactOneDownWrong : ChangeSpec := { name := "fnExactOneDown", fn := fun _ => fun
  | [d1, d2, d3, d4] => { results := [.lit (.bool false)], args := [d1, d2, d3, d4] }
  | _ => none }
def FnExactOneDownWrongFalsely : Prop := fnExactOneDownRow.holds Try.pinned (OpenSpec.ofChange fnExactOneDownWrong)

/-- 'laws.FnExactOneCoins': WHATEVER THE INPUT: true; the input reads as it did. -/
def fnExactOneCoinsSpec : ChangeSpec := { name := "fnExactOneCoins", fn := fun _ => fun
  | [d] => { results := [.lit (.bool true)], args := [d] }
  | _ => none }
def fnExactOneCoinsRow : OpenClaim := { program := "ytoickljpjlhkoaa", sum := "f73b64f14dfe2084c7d8175538a3ff11035e4fb409149d1695c74f669c1f24fa", func := "loop.example/landmarch/laws.FnExactOneCoins", spec := "fnExactOneCoins", apart := false }
def FnExactOneCoinsSaid : Prop := fnExactOneCoinsRow.holds Try.pinned (OpenSpec.ofChange fnExactOneCoinsSpec)

/-- ITS FALSE NEIGHBOUR: 'it returns false'. Refute it at one input. -/
def fnExactOneCoinsWrong : ChangeSpec := { name := "fnExactOneCoins", fn := fun _ => fun
  | [d] => { results := [.lit (.bool false)], args := [d] }
  | _ => none }
def FnExactOneCoinsWrongFalsely : Prop := fnExactOneCoinsRow.holds Try.pinned (OpenSpec.ofChange fnExactOneCoinsWrong)

/- THE SECOND FORM. 'bulk': how many values and letters a reading holds, each counted each time it is reached (what is shared counts as often as it is met; a slice's spare places count too). A statement '..UptoSaid' is the law's where the arguments, and the package variables that the reading takes, are together of bulk at most 1048576: NARROWER than '..Said'. Prove '..Said' where nothing that the law and all that it calls make is longer than what came in: it says more and counts as full. Else prove '..UptoSaid'. A law counts once. -/
mutual
def uptoBulk {H : Type} : DataW H → Nat
  | .lit (.string bytes) => bytes.length + 1
  | .lit _ => 1
  | .nil => 1
  | .ptr d => uptoBulk d + 1
  | .slice elems spare => uptoBulkAll elems + uptoBulkAll spare + 1
  | .agg parts => uptoBulkAll parts + 1
  | .iface _ d => uptoBulk d + 1
  | .map entries => uptoBulkEntries entries + 1
  | .held _ => 1
def uptoBulkAll {H : Type} : List (DataW H) → Nat
  | [] => 0
  | d :: r => uptoBulk d + uptoBulkAll r
def uptoBulkEntries {H : Type} : List (Lit × DataW H) → Nat
  | [] => 0
  | x :: r => uptoBulkEntry x + uptoBulkEntries r
def uptoBulkEntry {H : Type} : Lit × DataW H → Nat
  | (.string bytes, d) => bytes.length + uptoBulk d + 1
  | (_, d) => uptoBulk d + 1
 end
def uptoSmall : (H : Type) → List (DataW H) → Bool := fun _ ds => decide (uptoBulkAll ds ≤ 1048576)
def OpenSpec.upto (s : _root_.Go.ChangeSpec) : _root_.Go.OpenSpec := { _root_.Go.OpenSpec.ofChange s with cond := some uptoSmall }

/-- 'laws.FnExactOneOk', WHERE WHAT IT READS IS OF BULK AT MOST 1048576: true; the input reads as it did. -/
def fnExactOneOkUptoRow : OpenClaim := { program := "ytoickljpjlhkoaa", sum := "f73b64f14dfe2084c7d8175538a3ff11035e4fb409149d1695c74f669c1f24fa", func := "loop.example/landmarch/laws.FnExactOneOk", spec := "fnExactOneOk", apart := false, narrowed := true }
def FnExactOneOkUptoSaid : Prop := fnExactOneOkUptoRow.holds Try.pinned (OpenSpec.upto fnExactOneOkSpec)

/-- 'laws.FnExactOneLand', WHERE WHAT IT READS IS OF BULK AT MOST 1048576: true; the input reads as it did. -/
def fnExactOneLandUptoRow : OpenClaim := { program := "ytoickljpjlhkoaa", sum := "f73b64f14dfe2084c7d8175538a3ff11035e4fb409149d1695c74f669c1f24fa", func := "loop.example/landmarch/laws.FnExactOneLand", spec := "fnExactOneLand", unfollowed := true, recurses := true, apart := false, narrowed := true }
def FnExactOneLandUptoSaid : Prop := fnExactOneLandUptoRow.holds Try.pinned (OpenSpec.upto fnExactOneLandSpec)

/-- 'laws.FnExactOneDown', WHERE WHAT IT READS IS OF BULK AT MOST 1048576: true; the input reads as it did. -/
def fnExactOneDownUptoRow : OpenClaim := { program := "ytoickljpjlhkoaa", sum := "f73b64f14dfe2084c7d8175538a3ff11035e4fb409149d1695c74f669c1f24fa", func := "loop.example/landmarch/laws.FnExactOneDown", spec := "fnExactOneDown", unfollowed := true, recurses := true, apart := false, narrowed := true }
def FnExactOneDownUptoSaid : Prop := fnExactOneDownUptoRow.holds Try.pinned (OpenSpec.upto fnExactOneDownSpec)

/-- 'laws.FnExactOneCoins', WHERE WHAT IT READS IS OF BULK AT MOST 1048576: true; the input reads as it did. -/
def fnExactOneCoinsUptoRow : OpenClaim := { program := "ytoickljpjlhkoaa", sum := "f73b64f14dfe2084c7d8175538a3ff11035e4fb409149d1695c74f669c1f24fa", func := "loop.example/landmarch/laws.FnExactOneCoins", spec := "fnExactOneCoins", apart := false, narrowed := true }
def FnExactOneCoinsUptoSaid : Prop := fnExactOneCoinsUptoRow.holds Try.pinned (OpenSpec.upto fnExactOneCoinsSpec)

end Rows
end Go.Proofs.Ytoickljpjlhkoaa
