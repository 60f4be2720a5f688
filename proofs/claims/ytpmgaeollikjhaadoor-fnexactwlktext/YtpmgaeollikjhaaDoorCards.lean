/-
  DERIVED. GIVEN WITH THE SEED: THE CARDS: each row of YtpmgaeollikjhaaDoorRows.lean that lists a variable, with what it lists TIED to the program's text (the seventh form; the later family's looks); each row that meets fmt, with fmt's text TOLD by the authors' own Lean function (tested against real Go, not proved from fmt's source: count such statements apart). THE CARD IS WHAT COUNTS. Prove the row's statement (the work); the ties are given (YtpmgaeollikjhaaDoorTie.lean); close each card by the builder's one call (the guide's Derived/Test/ToyasCard.lean, 'card_holds'). Laid BY PROGRAM, IN A SANDBOX (cutbox-door.mjs). By AI agents, Wed Nov 11 2026. No macro, syntax, notation, axiom, sorry.
-/
import Derived.Test.YtpmgaeollikjhaaDoorRows
import GoSem.ClaimSeven
namespace Go.Proofs.YtpmgaeollikjhaaDoor
namespace Rows

/-- THE TIED CARD OF 'laws.FnExactWlkText'. -/
def fnExactWlkTextCard : Claim7 := { stood := { row := fnExactWlkTextRow, standIns := [], harness := (true, "cd86506b50593b583b0bd31b2981e4c83a2f3959b0deb2a46cdd06fe89a11d2d"), looks := false }, kinds := [], alts := [], laidByText := true, laidKinds := [.data, .data, .data], laidTests := true, laidLooks := .later }
def FnExactWlkTextCardSaid : Prop := Claim7.holds Tryd.pinned (.plain (OpenSpec.ofChange fnExactWlkTextSpec)) fnExactWlkTextCard

/-- THE SECOND FORM's CARD OF 'laws.FnExactWlkText'. -/
def fnExactWlkTextUptoCard : Claim7 := { stood := { row := fnExactWlkTextUptoRow, standIns := [], harness := (true, "cd86506b50593b583b0bd31b2981e4c83a2f3959b0deb2a46cdd06fe89a11d2d"), looks := false }, kinds := [], alts := [], laidByText := true, laidKinds := [.data, .data, .data], laidTests := true, laidLooks := .later }
def FnExactWlkTextUptoCardSaid : Prop := Claim7.holds Tryd.pinned (.plain (OpenSpec.upto fnExactWlkTextSpec)) fnExactWlkTextUptoCard
end Rows
end Go.Proofs.YtpmgaeollikjhaaDoor
