/-
  DERIVED. GIVEN WITH THE SEED: THE CARDS: each row of YtalahcfebiencaaDoorRows.lean that lists a variable, with what it lists TIED to the program's text (the seventh form; the later family's looks); each row that meets fmt, with fmt's text TOLD by the authors' own Lean function (tested against real Go, not proved from fmt's source: count such statements apart). THE CARD IS WHAT COUNTS. Prove the row's statement (the work); the ties are given (YtalahcfebiencaaDoorTie.lean); close each card by the builder's one call (the guide's Derived/Test/ToyasCard.lean, 'card_holds'). Laid BY PROGRAM, IN A SANDBOX (cutbox-door.mjs). By AI agents, Wed Nov 11 2026. No macro, syntax, notation, axiom, sorry.
-/
import Derived.Test.YtalahcfebiencaaDoorRows
import GoSem.ClaimSeven
namespace Go.Proofs.YtalahcfebiencaaDoor
namespace Rows

/-- THE TIED CARD OF 'laws.FnExactWlkRead'. -/
def fnExactWlkReadCard : Claim7 := { stood := { row := fnExactWlkReadRow, standIns := [], harness := (true, "6445655e8a6bfff5d1bd9be3bfb1917ac5a4ea5a775c43a1cf3019bac2ecf3be"), looks := true }, kinds := [], alts := [], laidByText := true, laidKinds := [.data, .data, .data, .data, .sentinel, .sentinel, .pinned], laidTests := true, laidLooks := .later }
def FnExactWlkReadCardSaid : Prop := Claim7.holds Tryd.pinned (.plain (OpenSpec.ofChange fnExactWlkReadSpec)) fnExactWlkReadCard

/-- THE SECOND FORM's CARD OF 'laws.FnExactWlkRead'. -/
def fnExactWlkReadUptoCard : Claim7 := { stood := { row := fnExactWlkReadUptoRow, standIns := [], harness := (true, "6445655e8a6bfff5d1bd9be3bfb1917ac5a4ea5a775c43a1cf3019bac2ecf3be"), looks := true }, kinds := [], alts := [], laidByText := true, laidKinds := [.data, .data, .data, .data, .sentinel, .sentinel, .pinned], laidTests := true, laidLooks := .later }
def FnExactWlkReadUptoCardSaid : Prop := Claim7.holds Tryd.pinned (.plain (OpenSpec.upto fnExactWlkReadSpec)) fnExactWlkReadUptoCard
end Rows
end Go.Proofs.YtalahcfebiencaaDoor
