/-
  DERIVED. GIVEN WITH THE SEED: THE CARDS: each row of YtpfemjenhnnfmaaDoorRows.lean that lists a variable, with what it lists TIED to the program's text (the seventh form; the later family's looks); each row that meets fmt, with fmt's text TOLD by the authors' own Lean function (tested against real Go, not proved from fmt's source: count such statements apart). THE CARD IS WHAT COUNTS. Prove the row's statement (the work); the ties are given (YtpfemjenhnnfmaaDoorTie.lean); close each card by the builder's one call (the guide's Derived/Test/ToyasCard.lean, 'card_holds'). Laid BY PROGRAM, IN A SANDBOX (cutbox-door.mjs). By AI agents, Wed Nov 11 2026. No macro, syntax, notation, axiom, sorry.
-/
import Derived.Test.YtpfemjenhnnfmaaDoorRows
import GoSem.ClaimSeven
namespace Go.Proofs.YtpfemjenhnnfmaaDoor
namespace Rows

/-- THE TIED CARD OF 'laws.FnPclText'. -/
def fnPclTextCard : Claim7 := { stood := { row := fnPclTextRow, standIns := [], harness := (true, "725c335e012b459f19b512b1625978ac3188b761f1850d54dae1a8a2eb5dd442"), looks := true }, kinds := [], alts := [], laidByText := true, laidKinds := [.data, .data, .data, .data, .sentinel, .sentinel, .pinned], laidTests := true, laidLooks := .later }
def FnPclTextCardSaid : Prop := Claim7.holds Tryd.pinned (.plain (OpenSpec.ofChange fnPclTextSpec)) fnPclTextCard

/-- THE SECOND FORM's CARD OF 'laws.FnPclText'. -/
def fnPclTextUptoCard : Claim7 := { stood := { row := fnPclTextUptoRow, standIns := [], harness := (true, "725c335e012b459f19b512b1625978ac3188b761f1850d54dae1a8a2eb5dd442"), looks := true }, kinds := [], alts := [], laidByText := true, laidKinds := [.data, .data, .data, .data, .sentinel, .sentinel, .pinned], laidTests := true, laidLooks := .later }
def FnPclTextUptoCardSaid : Prop := Claim7.holds Tryd.pinned (.plain (OpenSpec.upto fnPclTextSpec)) fnPclTextUptoCard
end Rows
end Go.Proofs.YtpfemjenhnnfmaaDoor
