/-
  NARROWER THAN 'FOR EVERY INPUT', by the rows' own cells (each row's printed sentence says how): FnExactLogApply: laid · FnExactLogFold: laid · FnExactStoOk: laid · FnExactStoState: laid · FnExactStoFence: laid · FnExactStoAppend: laid.
  DERIVED. THE GIVEN ROWS OF THIS SEAT. 6 by the template 'for every input the law returns true; each argument reads behind the call as it read before'; 0 by the template 'total and deterministic' (their statements: YtngaboipleimcaaGreatDoorTotals.lean).
  GIVEN WITH THE SEED: the statements are not yours to turn. If you find one false, say at which input.
  Laid BY PROGRAM, IN A SANDBOX (cutbox-rows.mjs): the forced cells as the released guide's own fill.sh prints them over the translation c6788445376a0fcd… (all of the seat's roots in one cut). By AI agents, Wed Nov 11 2026. No macro, syntax, notation, axiom, sorry.
-/
import Derived.Test.YtngaboipleimcaaGreatDoorChecked
import GoSem.Claim
import GoSem.ClaimJoined
import GoSem.ClaimMapViews
import Derived.JoinedTies
import Derived.KernelRfl
namespace Go.Proofs.YtngaboipleimcaaGreatDoor
/- THE CELL 'sum', in the pinned program and in every row, IS THE sha256 OF THE DUMP (.gsa) THAT YtngaboipleimcaaGreatDoorProg.lean LOADS. Nothing in Lean hashes anything: it is a label: what it is worth is what the hold of that sum in a sandbox is worth. -/
noncomputable def Tryz.pinned : Pinned := { name := "ytngaboipleimcaagreatdoor", sum := "c6788445376a0fcdc82a717b53a70a9102ebf4ef9a8deeb95b07b1282a4181e1", checked := Tryz.checked }
namespace Rows
def none {H : Type} : Left H := { results := [], args := [] }

/- WHAT THE LISTED PACKAGE-LEVEL VARIABLES READ AS WHEN THE CALL BEGINS. Each datum BY PROGRAM (the guide's laid-datum.mjs) off the statement by which the dump's own 'gosem.cut.vars' lays the variable. In a bare row this is a premise. The card (YtngaboipleimcaaGreatDoorCards.lean) ties it to the program's text. -/
def laid_errors_errorType {H : Type} : DataW H := .iface "internal/reflectlite.rtype" (.agg [.ptr (.lit (.string [101, 114, 114, 111, 114]))])

/-- 'laws.FnExactLogApply': WHATEVER THE INPUT: true; the input reads as it did. -/
def fnExactLogApplySpec : ChangeSpec := { name := "fnExactLogApply", fn := fun _ => fun
  | [d1, d2, d3] => { results := [.lit (.bool true)], args := [d1, d2, d3] }
  | _ => none }
def fnExactLogApplyRow : OpenClaim := { program := "ytngaboipleimcaagreatdoor", sum := "c6788445376a0fcdc82a717b53a70a9102ebf4ef9a8deeb95b07b1282a4181e1", func := "loop.example/landmarch/laws.FnExactLogApply", spec := "fnExactLogApply", inPlace := ["internal/reflectlite.ValueOf", "(internal/reflectlite.Value).Type", "(internal/reflectlite.Value).IsNil", "internal/reflectlite.TypeOf", "(internal/reflectlite.Value).Elem", "(internal/reflectlite.Value).Set"], unfollowed := true, recurses := true, named := ["errors.errorType"], apart := false, laid := [("errors.errorType", laid_errors_errorType)] }
def FnExactLogApplySaid : Prop := fnExactLogApplyRow.holds Tryz.pinned (OpenSpec.ofChange fnExactLogApplySpec)

/-- ITS FALSE NEIGHBOUR: 'it returns false'. Refute it at one input. -/
def fnExactLogApplyWrong : ChangeSpec := { name := "fnExactLogApply", fn := fun _ => fun
  | [d1, d2, d3] => { results := [.lit (.bool false)], args := [d1, d2, d3] }
  | _ => none }
def FnExactLogApplyWrongFalsely : Prop := fnExactLogApplyRow.holds Tryz.pinned (OpenSpec.ofChange fnExactLogApplyWrong)

/-- 'laws.FnExactLogFold': WHATEVER THE INPUT: true; the input reads as it did. -/
def fnExactLogFoldSpec : ChangeSpec := { name := "fnExactLogFold", fn := fun _ => fun
  | [d1, d2, d3] => { results := [.lit (.bool true)], args := [d1, d2, d3] }
  | _ => none }
def fnExactLogFoldRow : OpenClaim := { program := "ytngaboipleimcaagreatdoor", sum := "c6788445376a0fcdc82a717b53a70a9102ebf4ef9a8deeb95b07b1282a4181e1", func := "loop.example/landmarch/laws.FnExactLogFold", spec := "fnExactLogFold", inPlace := ["internal/reflectlite.ValueOf", "(internal/reflectlite.Value).Type", "(internal/reflectlite.Value).IsNil", "internal/reflectlite.TypeOf", "(internal/reflectlite.Value).Elem", "(internal/reflectlite.Value).Set"], unfollowed := true, recurses := true, named := ["errors.errorType"], apart := false, laid := [("errors.errorType", laid_errors_errorType)] }
def FnExactLogFoldSaid : Prop := fnExactLogFoldRow.holds Tryz.pinned (OpenSpec.ofChange fnExactLogFoldSpec)

/-- ITS FALSE NEIGHBOUR: 'it returns false'. Refute it at one input. -/
def fnExactLogFoldWrong : ChangeSpec := { name := "fnExactLogFold", fn := fun _ => fun
  | [d1, d2, d3] => { results := [.lit (.bool false)], args := [d1, d2, d3] }
  | _ => none }
def FnExactLogFoldWrongFalsely : Prop := fnExactLogFoldRow.holds Tryz.pinned (OpenSpec.ofChange fnExactLogFoldWrong)

/-- 'laws.FnExactStoOk': WHATEVER THE INPUT: true; the input reads as it did. -/
def fnExactStoOkSpec : ChangeSpec := { name := "fnExactStoOk", fn := fun _ => fun
  | [d1, d2] => { results := [.lit (.bool true)], args := [d1, d2] }
  | _ => none }
def fnExactStoOkRow : OpenClaim := { program := "ytngaboipleimcaagreatdoor", sum := "c6788445376a0fcdc82a717b53a70a9102ebf4ef9a8deeb95b07b1282a4181e1", func := "loop.example/landmarch/laws.FnExactStoOk", spec := "fnExactStoOk", inPlace := ["internal/reflectlite.ValueOf", "(internal/reflectlite.Value).Type", "(internal/reflectlite.Value).IsNil", "internal/reflectlite.TypeOf", "(internal/reflectlite.Value).Elem", "(internal/reflectlite.Value).Set"], unfollowed := true, recurses := true, named := ["errors.errorType"], apart := false, laid := [("errors.errorType", laid_errors_errorType)] }
def FnExactStoOkSaid : Prop := fnExactStoOkRow.holds Tryz.pinned (OpenSpec.ofChange fnExactStoOkSpec)

/-- ITS FALSE NEIGHBOUR: 'it returns false'. Refute it at one input. -/
def fnExactStoOkWrong : ChangeSpec := { name := "fnExactStoOk", fn := fun _ => fun
  | [d1, d2] => { results := [.lit (.bool false)], args := [d1, d2] }
  | _ => none }
def FnExactStoOkWrongFalsely : Prop := fnExactStoOkRow.holds Tryz.pinned (OpenSpec.ofChange fnExactStoOkWrong)

/-- 'laws.FnExactStoState': WHATEVER THE INPUT: true; the input reads as it did. -/
def fnExactStoStateSpec : ChangeSpec := { name := "fnExactStoState", fn := fun _ => fun
  | [d1, d2] => { results := [.lit (.bool true)], args := [d1, d2] }
  | _ => none }
def fnExactStoStateRow : OpenClaim := { program := "ytngaboipleimcaagreatdoor", sum := "c6788445376a0fcdc82a717b53a70a9102ebf4ef9a8deeb95b07b1282a4181e1", func := "loop.example/landmarch/laws.FnExactStoState", spec := "fnExactStoState", inPlace := ["internal/reflectlite.ValueOf", "(internal/reflectlite.Value).Type", "(internal/reflectlite.Value).IsNil", "internal/reflectlite.TypeOf", "(internal/reflectlite.Value).Elem", "(internal/reflectlite.Value).Set"], unfollowed := true, recurses := true, named := ["errors.errorType"], apart := false, laid := [("errors.errorType", laid_errors_errorType)] }
def FnExactStoStateSaid : Prop := fnExactStoStateRow.holds Tryz.pinned (OpenSpec.ofChange fnExactStoStateSpec)

/-- ITS FALSE NEIGHBOUR: 'it returns false'. Refute it at one input. -/
def fnExactStoStateWrong : ChangeSpec := { name := "fnExactStoState", fn := fun _ => fun
  | [d1, d2] => { results := [.lit (.bool false)], args := [d1, d2] }
  | _ => none }
def FnExactStoStateWrongFalsely : Prop := fnExactStoStateRow.holds Tryz.pinned (OpenSpec.ofChange fnExactStoStateWrong)

/-- 'laws.FnExactStoFence': WHATEVER THE INPUT: true; the input reads as it did. -/
def fnExactStoFenceSpec : ChangeSpec := { name := "fnExactStoFence", fn := fun _ => fun
  | [d1, d2, d3] => { results := [.lit (.bool true)], args := [d1, d2, d3] }
  | _ => none }
def fnExactStoFenceRow : OpenClaim := { program := "ytngaboipleimcaagreatdoor", sum := "c6788445376a0fcdc82a717b53a70a9102ebf4ef9a8deeb95b07b1282a4181e1", func := "loop.example/landmarch/laws.FnExactStoFence", spec := "fnExactStoFence", inPlace := ["internal/reflectlite.ValueOf", "(internal/reflectlite.Value).Type", "(internal/reflectlite.Value).IsNil", "internal/reflectlite.TypeOf", "(internal/reflectlite.Value).Elem", "(internal/reflectlite.Value).Set"], unfollowed := true, recurses := true, named := ["errors.errorType"], apart := false, laid := [("errors.errorType", laid_errors_errorType)] }
def FnExactStoFenceSaid : Prop := fnExactStoFenceRow.holds Tryz.pinned (OpenSpec.ofChange fnExactStoFenceSpec)

/-- ITS FALSE NEIGHBOUR: 'it returns false'. Refute it at one input. -/
def fnExactStoFenceWrong : ChangeSpec := { name := "fnExactStoFence", fn := fun _ => fun
  | [d1, d2, d3] => { results := [.lit (.bool false)], args := [d1, d2, d3] }
  | _ => none }
def FnExactStoFenceWrongFalsely : Prop := fnExactStoFenceRow.holds Tryz.pinned (OpenSpec.ofChange fnExactStoFenceWrong)

/-- 'laws.FnExactStoAppend': WHATEVER THE INPUT: true; the input reads as it did. -/
def fnExactStoAppendSpec : ChangeSpec := { name := "fnExactStoAppend", fn := fun _ => fun
  | [d1, d2, d3, d4, d5] => { results := [.lit (.bool true)], args := [d1, d2, d3, d4, d5] }
  | _ => none }
def fnExactStoAppendRow : OpenClaim := { program := "ytngaboipleimcaagreatdoor", sum := "c6788445376a0fcdc82a717b53a70a9102ebf4ef9a8deeb95b07b1282a4181e1", func := "loop.example/landmarch/laws.FnExactStoAppend", spec := "fnExactStoAppend", inPlace := ["internal/reflectlite.ValueOf", "(internal/reflectlite.Value).Type", "(internal/reflectlite.Value).IsNil", "internal/reflectlite.TypeOf", "(internal/reflectlite.Value).Elem", "(internal/reflectlite.Value).Set"], unfollowed := true, recurses := true, named := ["errors.errorType"], apart := false, laid := [("errors.errorType", laid_errors_errorType)] }
def FnExactStoAppendSaid : Prop := fnExactStoAppendRow.holds Tryz.pinned (OpenSpec.ofChange fnExactStoAppendSpec)

/-- ITS FALSE NEIGHBOUR: 'it returns false'. Refute it at one input. -/
def fnExactStoAppendWrong : ChangeSpec := { name := "fnExactStoAppend", fn := fun _ => fun
  | [d1, d2, d3, d4, d5] => { results := [.lit (.bool false)], args := [d1, d2, d3, d4, d5] }
  | _ => none }
def FnExactStoAppendWrongFalsely : Prop := fnExactStoAppendRow.holds Tryz.pinned (OpenSpec.ofChange fnExactStoAppendWrong)

/- THE SECOND FORM. 'bulk': how many values and letters a reading holds, each counted each time it is reached (what is shared counts as often as it is met; a slice's spare places count too). A statement '..UptoSaid' is the law's where the arguments, and the package variables that the reading takes, are together of bulk at most 1048576: NARROWER than '..Said'. Prove '..Said' where nothing that the law and all that it calls make is longer than what came in: it says more and counts as full. Else prove '..UptoSaid'. A law counts once. -/
mutual
def uptoBulk {H : Type} : DataW H → Nat
  | .lit (.string bytes) => bytes.length + 1
  | .lit _ => 1
  | .nil => 1
  | .ptr d => uptoBulk d + 1
  | .slice elems spare => uptoBulkAll elems + uptoBulkAll spare + 1
  | .agg parts => uptoBulkAll parts + 1
  | .iface _ d => uptoBulk d + 1
  | .map entries => uptoBulkEntries entries + 1
  | .held _ => 1
def uptoBulkAll {H : Type} : List (DataW H) → Nat
  | [] => 0
  | d :: r => uptoBulk d + uptoBulkAll r
def uptoBulkEntries {H : Type} : List (Lit × DataW H) → Nat
  | [] => 0
  | x :: r => uptoBulkEntry x + uptoBulkEntries r
def uptoBulkEntry {H : Type} : Lit × DataW H → Nat
  | (.string bytes, d) => bytes.length + uptoBulk d + 1
  | (_, d) => uptoBulk d + 1
 end
def uptoSmall : (H : Type) → List (DataW H) → Bool := fun _ ds => decide (uptoBulkAll ds ≤ 1048576)
def OpenSpec.upto (s : _root_.Go.ChangeSpec) : _root_.Go.OpenSpec := { _root_.Go.OpenSpec.ofChange s with cond := some uptoSmall }

/-- 'laws.FnExactLogApply', WHERE WHAT IT READS IS OF BULK AT MOST 1048576: true; the input reads as it did. -/
def fnExactLogApplyUptoRow : OpenClaim := { program := "ytngaboipleimcaagreatdoor", sum := "c6788445376a0fcdc82a717b53a70a9102ebf4ef9a8deeb95b07b1282a4181e1", func := "loop.example/landmarch/laws.FnExactLogApply", spec := "fnExactLogApply", inPlace := ["internal/reflectlite.ValueOf", "(internal/reflectlite.Value).Type", "(internal/reflectlite.Value).IsNil", "internal/reflectlite.TypeOf", "(internal/reflectlite.Value).Elem", "(internal/reflectlite.Value).Set"], unfollowed := true, recurses := true, named := ["errors.errorType"], apart := false, laid := [("errors.errorType", laid_errors_errorType)], narrowed := true }
def FnExactLogApplyUptoSaid : Prop := fnExactLogApplyUptoRow.holds Tryz.pinned (OpenSpec.upto fnExactLogApplySpec)

/-- 'laws.FnExactLogFold', WHERE WHAT IT READS IS OF BULK AT MOST 1048576: true; the input reads as it did. -/
def fnExactLogFoldUptoRow : OpenClaim := { program := "ytngaboipleimcaagreatdoor", sum := "c6788445376a0fcdc82a717b53a70a9102ebf4ef9a8deeb95b07b1282a4181e1", func := "loop.example/landmarch/laws.FnExactLogFold", spec := "fnExactLogFold", inPlace := ["internal/reflectlite.ValueOf", "(internal/reflectlite.Value).Type", "(internal/reflectlite.Value).IsNil", "internal/reflectlite.TypeOf", "(internal/reflectlite.Value).Elem", "(internal/reflectlite.Value).Set"], unfollowed := true, recurses := true, named := ["errors.errorType"], apart := false, laid := [("errors.errorType", laid_errors_errorType)], narrowed := true }
def FnExactLogFoldUptoSaid : Prop := fnExactLogFoldUptoRow.holds Tryz.pinned (OpenSpec.upto fnExactLogFoldSpec)

/-- 'laws.FnExactStoOk', WHERE WHAT IT READS IS OF BULK AT MOST 1048576: true; the input reads as it did. -/
def fnExactStoOkUptoRow : OpenClaim := { program := "ytngaboipleimcaagreatdoor", sum := "c6788445376a0fcdc82a717b53a70a9102ebf4ef9a8deeb95b07b1282a4181e1", func := "loop.example/landmarch/laws.FnExactStoOk", spec := "fnExactStoOk", inPlace := ["internal/reflectlite.ValueOf", "(internal/reflectlite.Value).Type", "(internal/reflectlite.Value).IsNil", "internal/reflectlite.TypeOf", "(internal/reflectlite.Value).Elem", "(internal/reflectlite.Value).Set"], unfollowed := true, recurses := true, named := ["errors.errorType"], apart := false, laid := [("errors.errorType", laid_errors_errorType)], narrowed := true }
def FnExactStoOkUptoSaid : Prop := fnExactStoOkUptoRow.holds Tryz.pinned (OpenSpec.upto fnExactStoOkSpec)

/-- 'laws.FnExactStoState', WHERE WHAT IT READS IS OF BULK AT MOST 1048576: true; the input reads as it did. -/
def fnExactStoStateUptoRow : OpenClaim := { program := "ytngaboipleimcaagreatdoor", sum := "c6788445376a0fcdc82a717b53a70a9102ebf4ef9a8deeb95b07b1282a4181e1", func := "loop.example/landmarch/laws.FnExactStoState", spec := "fnExactStoState", inPlace := ["internal/reflectlite.ValueOf", "(internal/reflectlite.Value).Type", "(internal/reflectlite.Value).IsNil", "internal/reflectlite.TypeOf", "(internal/reflectlite.Value).Elem", "(internal/reflectlite.Value).Set"], unfollowed := true, recurses := true, named := ["errors.errorType"], apart := false, laid := [("errors.errorType", laid_errors_errorType)], narrowed := true }
def FnExactStoStateUptoSaid : Prop := fnExactStoStateUptoRow.holds Tryz.pinned (OpenSpec.upto fnExactStoStateSpec)

/-- 'laws.FnExactStoFence', WHERE WHAT IT READS IS OF BULK AT MOST 1048576: true; the input reads as it did. -/
def fnExactStoFenceUptoRow : OpenClaim := { program := "ytngaboipleimcaagreatdoor", sum := "c6788445376a0fcdc82a717b53a70a9102ebf4ef9a8deeb95b07b1282a4181e1", func := "loop.example/landmarch/laws.FnExactStoFence", spec := "fnExactStoFence", inPlace := ["internal/reflectlite.ValueOf", "(internal/reflectlite.Value).Type", "(internal/reflectlite.Value).IsNil", "internal/reflectlite.TypeOf", "(internal/reflectlite.Value).Elem", "(internal/reflectlite.Value).Set"], unfollowed := true, recurses := true, named := ["errors.errorType"], apart := false, laid := [("errors.errorType", laid_errors_errorType)], narrowed := true }
def FnExactStoFenceUptoSaid : Prop := fnExactStoFenceUptoRow.holds Tryz.pinned (OpenSpec.upto fnExactStoFenceSpec)

/-- 'laws.FnExactStoAppend', WHERE WHAT IT READS IS OF BULK AT MOST 1048576: true; the input reads as it did. -/
def fnExactStoAppendUptoRow : OpenClaim := { program := "ytngaboipleimcaagreatdoor", sum := "c6788445376a0fcdc82a717b53a70a9102ebf4ef9a8deeb95b07b1282a4181e1", func := "loop.example/landmarch/laws.FnExactStoAppend", spec := "fnExactStoAppend", inPlace := ["internal/reflectlite.ValueOf", "(internal/reflectlite.Value).Type", "(internal/reflectlite.Value).IsNil", "internal/reflectlite.TypeOf", "(internal/reflectlite.Value).Elem", "(internal/reflectlite.Value).Set"], unfollowed := true, recurses := true, named := ["errors.errorType"], apart := false, laid := [("errors.errorType", laid_errors_errorType)], narrowed := true }
def FnExactStoAppendUptoSaid : Prop := fnExactStoAppendUptoRow.holds Tryz.pinned (OpenSpec.upto fnExactStoAppendSpec)

end Rows
end Go.Proofs.YtngaboipleimcaaGreatDoor
