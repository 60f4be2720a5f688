/-
  No cell of these rows narrows 'for every input' (looked for: loops, veiled, ifaces, maps, wideKeys, modest, calm, conditions, laid).
  DERIVED. THE GIVEN ROWS OF THIS SEAT. 3 by the template 'for every input the law returns true; each argument reads behind the call as it read before'; 0 by the template 'total and deterministic' (their statements: YtfigfalmmieelaaTotals.lean).
  GIVEN WITH THE SEED: the statements are not yours to turn. If you find one false, say at which input.
  Laid BY PROGRAM, IN A SANDBOX (cutbox-rows.mjs): the forced cells as the released guide's own fill.sh prints them over the translation 4e39a6594b1e028c… (all of the seat's roots in one cut). By AI agents, Wed Nov 11 2026. No macro, syntax, notation, axiom, sorry.
-/
import Derived.Test.YtfigfalmmieelaaChecked
import GoSem.Claim
import GoSem.ClaimJoined
import GoSem.ClaimMapViews
import Derived.JoinedTies
import Derived.KernelRfl
namespace Go.Proofs.Ytfigfalmmieelaa
/- THE CELL 'sum', in the pinned program and in every row, IS THE sha256 OF THE DUMP (.gsa) THAT YtfigfalmmieelaaProg.lean LOADS. Nothing in Lean hashes anything: it is a label: what it is worth is what the hold of that sum in a sandbox is worth. -/
noncomputable def Try.pinned : Pinned := { name := "ytfigfalmmieelaa", sum := "4e39a6594b1e028c613ec810c8b2a9aaa195dd842d8592e645390ad7853ff34a", checked := Try.checked }
namespace Rows
def none {H : Type} : Left H := { results := [], args := [] }

/-- 'laws.FnWlkOrder': WHATEVER THE INPUT: true; the input reads as it did. -/
def fnWlkOrderSpec : ChangeSpec := { name := "fnWlkOrder", fn := fun _ => fun
  | [d] => { results := [.lit (.bool true)], args := [d] }
  | _ => none }
def fnWlkOrderRow : OpenClaim := { program := "ytfigfalmmieelaa", sum := "4e39a6594b1e028c613ec810c8b2a9aaa195dd842d8592e645390ad7853ff34a", func := "loop.example/landmarch/laws.FnWlkOrder", spec := "fnWlkOrder", inPlace := ["slices.overlaps[loop.example/landmarch/impl.WlkWalker]"], unfollowed := true, recurses := true, apart := false }
def FnWlkOrderSaid : Prop := fnWlkOrderRow.holds Try.pinned (OpenSpec.ofChange fnWlkOrderSpec)

/-- ITS FALSE NEIGHBOUR: 'it returns false'. Refute it at one input. -/
def fnWlkOrderWrong : ChangeSpec := { name := "fnWlkOrder", fn := fun _ => fun
  | [d] => { results := [.lit (.bool false)], args := [d] }
  | _ => none }
def FnWlkOrderWrongFalsely : Prop := fnWlkOrderRow.holds Try.pinned (OpenSpec.ofChange fnWlkOrderWrong)

/-- 'laws.FnExactWlkOut': WHATEVER THE INPUT: true; the input reads as it did. -/
def fnExactWlkOutSpec : ChangeSpec := { name := "fnExactWlkOut", fn := fun _ => fun
  | [d1, d2] => { results := [.lit (.bool true)], args := [d1, d2] }
  | _ => none }
def fnExactWlkOutRow : OpenClaim := { program := "ytfigfalmmieelaa", sum := "4e39a6594b1e028c613ec810c8b2a9aaa195dd842d8592e645390ad7853ff34a", func := "loop.example/landmarch/laws.FnExactWlkOut", spec := "fnExactWlkOut", unfollowed := true, recurses := true, apart := false }
def FnExactWlkOutSaid : Prop := fnExactWlkOutRow.holds Try.pinned (OpenSpec.ofChange fnExactWlkOutSpec)

/-- ITS FALSE NEIGHBOUR: 'it returns false'. Refute it at one input. -/
def fnExactWlkOutWrong : ChangeSpec := { name := "fnExactWlkOut", fn := fun _ => fun
  | [d1, d2] => { results := [.lit (.bool false)], args := [d1, d2] }
  | _ => none }
def FnExactWlkOutWrongFalsely : Prop := fnExactWlkOutRow.holds Try.pinned (OpenSpec.ofChange fnExactWlkOutWrong)

/-- 'laws.FnExactWlkPut': WHATEVER THE INPUT: true; the input reads as it did. -/
def fnExactWlkPutSpec : ChangeSpec := { name := "fnExactWlkPut", fn := fun _ => fun
  | [d1, d2] => { results := [.lit (.bool true)], args := [d1, d2] }
  | _ => none }
def fnExactWlkPutRow : OpenClaim := { program := "ytfigfalmmieelaa", sum := "4e39a6594b1e028c613ec810c8b2a9aaa195dd842d8592e645390ad7853ff34a", func := "loop.example/landmarch/laws.FnExactWlkPut", spec := "fnExactWlkPut", inPlace := ["slices.overlaps[loop.example/landmarch/impl.WlkWalker]"], unfollowed := true, recurses := true, apart := false }
def FnExactWlkPutSaid : Prop := fnExactWlkPutRow.holds Try.pinned (OpenSpec.ofChange fnExactWlkPutSpec)

/-- ITS FALSE NEIGHBOUR: 'it returns false'. Refute it at one input. -/
def fnExactWlkPutWrong : ChangeSpec := { name := "fnExactWlkPut", fn := fun _ => fun
  | [d1, d2] => { results := [.lit (.bool false)], args := [d1, d2] }
  | _ => none }
def FnExactWlkPutWrongFalsely : Prop := fnExactWlkPutRow.holds Try.pinned (OpenSpec.ofChange fnExactWlkPutWrong)

/- THE SECOND FORM. 'bulk': how many values and letters a reading holds, each counted each time it is reached (what is shared counts as often as it is met; a slice's spare places count too). A statement '..UptoSaid' is the law's where the arguments, and the package variables that the reading takes, are together of bulk at most 1048576: NARROWER than '..Said'. Prove '..Said' where nothing that the law and all that it calls make is longer than what came in: it says more and counts as full. Else prove '..UptoSaid'. A law counts once. -/
mutual
def uptoBulk {H : Type} : DataW H → Nat
  | .lit (.string bytes) => bytes.length + 1
  | .lit _ => 1
  | .nil => 1
  | .ptr d => uptoBulk d + 1
  | .slice elems spare => uptoBulkAll elems + uptoBulkAll spare + 1
  | .agg parts => uptoBulkAll parts + 1
  | .iface _ d => uptoBulk d + 1
  | .map entries => uptoBulkEntries entries + 1
  | .held _ => 1
def uptoBulkAll {H : Type} : List (DataW H) → Nat
  | [] => 0
  | d :: r => uptoBulk d + uptoBulkAll r
def uptoBulkEntries {H : Type} : List (Lit × DataW H) → Nat
  | [] => 0
  | x :: r => uptoBulkEntry x + uptoBulkEntries r
def uptoBulkEntry {H : Type} : Lit × DataW H → Nat
  | (.string bytes, d) => bytes.length + uptoBulk d + 1
  | (_, d) => uptoBulk d + 1
 end
def uptoSmall : (H : Type) → List (DataW H) → Bool := fun _ ds => decide (uptoBulkAll ds ≤ 1048576)
def OpenSpec.upto (s : _root_.Go.ChangeSpec) : _root_.Go.OpenSpec := { _root_.Go.OpenSpec.ofChange s with cond := some uptoSmall }

/-- 'laws.FnWlkOrder', WHERE WHAT IT READS IS OF BULK AT MOST 1048576: true; the input reads as it did. -/
def fnWlkOrderUptoRow : OpenClaim := { program := "ytfigfalmmieelaa", sum := "4e39a6594b1e028c613ec810c8b2a9aaa195dd842d8592e645390ad7853ff34a", func := "loop.example/landmarch/laws.FnWlkOrder", spec := "fnWlkOrder", inPlace := ["slices.overlaps[loop.example/landmarch/impl.WlkWalker]"], unfollowed := true, recurses := true, apart := false, narrowed := true }
def FnWlkOrderUptoSaid : Prop := fnWlkOrderUptoRow.holds Try.pinned (OpenSpec.upto fnWlkOrderSpec)

/-- 'laws.FnExactWlkOut', WHERE WHAT IT READS IS OF BULK AT MOST 1048576: true; the input reads as it did. -/
def fnExactWlkOutUptoRow : OpenClaim := { program := "ytfigfalmmieelaa", sum := "4e39a6594b1e028c613ec810c8b2a9aaa195dd842d8592e645390ad7853ff34a", func := "loop.example/landmarch/laws.FnExactWlkOut", spec := "fnExactWlkOut", unfollowed := true, recurses := true, apart := false, narrowed := true }
def FnExactWlkOutUptoSaid : Prop := fnExactWlkOutUptoRow.holds Try.pinned (OpenSpec.upto fnExactWlkOutSpec)

/-- 'laws.FnExactWlkPut', WHERE WHAT IT READS IS OF BULK AT MOST 1048576: true; the input reads as it did. -/
def fnExactWlkPutUptoRow : OpenClaim := { program := "ytfigfalmmieelaa", sum := "4e39a6594b1e028c613ec810c8b2a9aaa195dd842d8592e645390ad7853ff34a", func := "loop.example/landmarch/laws.FnExactWlkPut", spec := "fnExactWlkPut", inPlace := ["slices.overlaps[loop.example/landmarch/impl.WlkWalker]"], unfollowed := true, recurses := true, apart := false, narrowed := true }
def FnExactWlkPutUptoSaid : Prop := fnExactWlkPutUptoRow.holds Try.pinned (OpenSpec.upto fnExactWlkPutSpec)

end Rows
end Go.Proofs.Ytfigfalmmieelaa
