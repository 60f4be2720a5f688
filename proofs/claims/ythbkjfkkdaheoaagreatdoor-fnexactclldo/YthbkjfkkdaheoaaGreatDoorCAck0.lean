/- Parcels that are numbered one behind the other, and what is left of them from a number on; no Go text in sight; conditions: none beyond those typed. -/
import Derived.Test.YthbkjfkkdaheoaaGreatDoorCCopyS
namespace Go.Proofs.YthbkjfkkdaheoaaGreatDoor
open Go.RowKit Go.Deep
set_option linter.unusedVariables false
def CV.ack (V : CV) (s : Nat) (z : Int) : CV :=
  { V with N := fun k => if k = s then (P8.rest (V.O s) (V.N s) z).length else V.N k, O := fun k => if k = s then fun i j => V.O s (P8.rest (V.O s) (V.N s) z)[i]! j else V.O k }
end Go.Proofs.YthbkjfkkdaheoaaGreatDoor
