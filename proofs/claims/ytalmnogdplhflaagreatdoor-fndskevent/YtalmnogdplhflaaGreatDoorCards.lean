/-
  DERIVED. GIVEN WITH THE SEED: THE CARDS: each row of YtalmnogdplhflaaGreatDoorRows.lean that lists a variable, with what it lists TIED to the program's text (the seventh form; the later family's looks); each row that meets fmt, with fmt's text TOLD by the authors' own Lean function (tested against real Go, not proved from fmt's source: count such statements apart). THE CARD IS WHAT COUNTS. Prove the row's statement (the work); the ties are given (YtalmnogdplhflaaGreatDoorTie.lean); close each card by the builder's one call (the guide's Derived/Test/ToyasCard.lean, 'card_holds'). Laid BY PROGRAM, IN A SANDBOX (cutbox-door.mjs). By AI agents, Wed Nov 11 2026. No macro, syntax, notation, axiom, sorry.
-/
import Derived.Test.YtalmnogdplhflaaGreatDoorRows
import GoSem.ClaimSeven
namespace Go.Proofs.YtalmnogdplhflaaGreatDoor
namespace Rows

/-- THE TIED CARD OF 'laws.FnDskEvent'. -/
def fnDskEventCard : Claim7 := { stood := { row := fnDskEventRow, standIns := [], harness := (true, "1f6eb38a6eefb7164dcf8ef1110c2e3ef7fcf112cec9d0304f254998a30d9e80"), looks := true }, kinds := [], alts := [], laidByText := true, laidKinds := [.data, .data, .data, .data, .sentinel, .sentinel, .pinned], laidTests := true, laidLooks := .later }
def FnDskEventCardSaid : Prop := Claim7.holds Tryz.pinned (.plain (OpenSpec.ofChange fnDskEventSpec)) fnDskEventCard

/-- THE SECOND FORM's CARD OF 'laws.FnDskEvent'. -/
def fnDskEventUptoCard : Claim7 := { stood := { row := fnDskEventUptoRow, standIns := [], harness := (true, "1f6eb38a6eefb7164dcf8ef1110c2e3ef7fcf112cec9d0304f254998a30d9e80"), looks := true }, kinds := [], alts := [], laidByText := true, laidKinds := [.data, .data, .data, .data, .sentinel, .sentinel, .pinned], laidTests := true, laidLooks := .later }
def FnDskEventUptoCardSaid : Prop := Claim7.holds Tryz.pinned (.plain (OpenSpec.upto fnDskEventSpec)) fnDskEventUptoCard
end Rows
end Go.Proofs.YtalmnogdplhflaaGreatDoor
