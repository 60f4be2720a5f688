/-
  DERIVED. GIVEN WITH THE SEED: THE CARDS: each row of YtlmoeacpkkkkcaaGreatDoorRows.lean that lists a variable, with what it lists TIED to the program's text (the seventh form; the later family's looks); each row that meets fmt, with fmt's text TOLD by the authors' own Lean function (tested against real Go, not proved from fmt's source: count such statements apart). THE CARD IS WHAT COUNTS. Prove the row's statement (the work); the ties are given (YtlmoeacpkkkkcaaGreatDoorTie.lean); close each card by the builder's one call (the guide's Derived/Test/ToyasCard.lean, 'card_holds'). Laid BY PROGRAM, IN A SANDBOX (cutbox-door.mjs). By AI agents, Wed Nov 11 2026. No macro, syntax, notation, axiom, sorry.
-/
import Derived.Test.YtlmoeacpkkkkcaaGreatDoorRows
import GoSem.ClaimSeven
namespace Go.Proofs.YtlmoeacpkkkkcaaGreatDoor
namespace Rows

/-- THE TIED CARD OF 'laws.FnExactDskHead'. -/
def fnExactDskHeadCard : Claim7 := { stood := { row := fnExactDskHeadRow, standIns := [], harness := (true, "a9d77cf5a3fcd039070c0aecc5912916fe80da8092e229355625686daab334a6"), looks := true }, kinds := [], alts := [], laidByText := true, laidKinds := [.data, .data, .data, .data, .handle, .sentinel, .sentinel, .pinned], laidTests := true, laidLooks := .later }
def FnExactDskHeadCardSaid : Prop := Claim7.holds Tryz.pinned (.plain (OpenSpec.ofChange fnExactDskHeadSpec)) fnExactDskHeadCard

/-- THE SECOND FORM's CARD OF 'laws.FnExactDskHead'. -/
def fnExactDskHeadUptoCard : Claim7 := { stood := { row := fnExactDskHeadUptoRow, standIns := [], harness := (true, "a9d77cf5a3fcd039070c0aecc5912916fe80da8092e229355625686daab334a6"), looks := true }, kinds := [], alts := [], laidByText := true, laidKinds := [.data, .data, .data, .data, .handle, .sentinel, .sentinel, .pinned], laidTests := true, laidLooks := .later }
def FnExactDskHeadUptoCardSaid : Prop := Claim7.holds Tryz.pinned (.plain (OpenSpec.upto fnExactDskHeadSpec)) fnExactDskHeadUptoCard
end Rows
end Go.Proofs.YtlmoeacpkkkkcaaGreatDoor
