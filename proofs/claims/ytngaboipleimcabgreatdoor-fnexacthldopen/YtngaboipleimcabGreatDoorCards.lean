/-
  DERIVED. GIVEN WITH THE SEED: THE CARDS: each row of YtngaboipleimcabGreatDoorRows.lean that lists a variable, with what it lists TIED to the program's text (the seventh form; the later family's looks); each row that meets fmt, with fmt's text TOLD by the authors' own Lean function (tested against real Go, not proved from fmt's source: count such statements apart). THE CARD IS WHAT COUNTS. Prove the row's statement (the work); the ties are given (YtngaboipleimcabGreatDoorTie.lean); close each card by the builder's one call (the guide's Derived/Test/ToyasCard.lean, 'card_holds'). Laid BY PROGRAM, IN A SANDBOX (cutbox-door.mjs). By AI agents, Wed Nov 11 2026. No macro, syntax, notation, axiom, sorry.
-/
import Derived.Test.YtngaboipleimcabGreatDoorRows
import GoSem.ClaimSeven
namespace Go.Proofs.YtngaboipleimcabGreatDoor
namespace Rows

/-- THE TIED CARD OF 'laws.FnExactHldOpen'. -/
def fnExactHldOpenCard : Claim7 := { stood := { row := fnExactHldOpenRow, standIns := [], harness := (true, "61936120ae38002f15de1f87cd13a100edb2dc2008db85622de086110355e044"), looks := true }, kinds := [], alts := [], laidByText := true, laidKinds := [.handle], laidTests := true, laidLooks := .later }
def FnExactHldOpenCardSaid : Prop := Claim7.holds Tryz.pinned (.plain (OpenSpec.ofChange fnExactHldOpenSpec)) fnExactHldOpenCard

/-- THE TIED CARD OF 'laws.FnExactHldWrite'. -/
def fnExactHldWriteCard : Claim7 := { stood := { row := fnExactHldWriteRow, standIns := [], harness := (true, "61936120ae38002f15de1f87cd13a100edb2dc2008db85622de086110355e044"), looks := true }, kinds := [], alts := [], laidByText := true, laidKinds := [.handle], laidTests := true, laidLooks := .later }
def FnExactHldWriteCardSaid : Prop := Claim7.holds Tryz.pinned (.plain (OpenSpec.ofChange fnExactHldWriteSpec)) fnExactHldWriteCard

/-- THE SECOND FORM's CARD OF 'laws.FnExactHldOpen'. -/
def fnExactHldOpenUptoCard : Claim7 := { stood := { row := fnExactHldOpenUptoRow, standIns := [], harness := (true, "61936120ae38002f15de1f87cd13a100edb2dc2008db85622de086110355e044"), looks := true }, kinds := [], alts := [], laidByText := true, laidKinds := [.handle], laidTests := true, laidLooks := .later }
def FnExactHldOpenUptoCardSaid : Prop := Claim7.holds Tryz.pinned (.plain (OpenSpec.upto fnExactHldOpenSpec)) fnExactHldOpenUptoCard

/-- THE SECOND FORM's CARD OF 'laws.FnExactHldWrite'. -/
def fnExactHldWriteUptoCard : Claim7 := { stood := { row := fnExactHldWriteUptoRow, standIns := [], harness := (true, "61936120ae38002f15de1f87cd13a100edb2dc2008db85622de086110355e044"), looks := true }, kinds := [], alts := [], laidByText := true, laidKinds := [.handle], laidTests := true, laidLooks := .later }
def FnExactHldWriteUptoCardSaid : Prop := Claim7.holds Tryz.pinned (.plain (OpenSpec.upto fnExactHldWriteSpec)) fnExactHldWriteUptoCard
end Rows
end Go.Proofs.YtngaboipleimcabGreatDoor
