/-
  DERIVED. GIVEN WITH THE SEED: THE CARDS: each row of YtkojpodfdbkhbaaDoorRows.lean that lists a variable, with what it lists TIED to the program's text (the seventh form; the later family's looks); each row that meets fmt, with fmt's text TOLD by the authors' own Lean function (tested against real Go, not proved from fmt's source: count such statements apart). THE CARD IS WHAT COUNTS. Prove the row's statement (the work); the ties are given (YtkojpodfdbkhbaaDoorTie.lean); close each card by the builder's one call (the guide's Derived/Test/ToyasCard.lean, 'card_holds'). Laid BY PROGRAM, IN A SANDBOX (cutbox-door.mjs). By AI agents, Wed Nov 11 2026. No macro, syntax, notation, axiom, sorry.
-/
import Derived.Test.YtkojpodfdbkhbaaDoorRows
import GoSem.ClaimSeven
namespace Go.Proofs.YtkojpodfdbkhbaaDoor
namespace Rows

/-- THE TIED CARD OF 'laws.FnWlkText'. -/
def fnWlkTextCard : Claim7 := { stood := { row := fnWlkTextRow, standIns := [], harness := (true, "c186a4d16757be12898894502081256158bd82f7e83464c894292eb9b2680993"), looks := true }, kinds := [], alts := [], laidByText := true, laidKinds := [.data, .data, .data, .data, .sentinel, .sentinel, .pinned], laidTests := true, laidLooks := .later }
def FnWlkTextCardSaid : Prop := Claim7.holds Tryd.pinned (.plain (OpenSpec.ofChange fnWlkTextSpec)) fnWlkTextCard

/-- THE SECOND FORM's CARD OF 'laws.FnWlkText'. -/
def fnWlkTextUptoCard : Claim7 := { stood := { row := fnWlkTextUptoRow, standIns := [], harness := (true, "c186a4d16757be12898894502081256158bd82f7e83464c894292eb9b2680993"), looks := true }, kinds := [], alts := [], laidByText := true, laidKinds := [.data, .data, .data, .data, .sentinel, .sentinel, .pinned], laidTests := true, laidLooks := .later }
def FnWlkTextUptoCardSaid : Prop := Claim7.holds Tryd.pinned (.plain (OpenSpec.upto fnWlkTextSpec)) fnWlkTextUptoCard
end Rows
end Go.Proofs.YtkojpodfdbkhbaaDoor
