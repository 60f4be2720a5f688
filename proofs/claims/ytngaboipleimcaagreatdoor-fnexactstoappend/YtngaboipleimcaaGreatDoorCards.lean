/-
  DERIVED. GIVEN WITH THE SEED: THE CARDS: each row of YtngaboipleimcaaGreatDoorRows.lean that lists a variable, with what it lists TIED to the program's text (the seventh form; the later family's looks); each row that meets fmt, with fmt's text TOLD by the authors' own Lean function (tested against real Go, not proved from fmt's source: count such statements apart). THE CARD IS WHAT COUNTS. Prove the row's statement (the work); the ties are given (YtngaboipleimcaaGreatDoorTie.lean); close each card by the builder's one call (the guide's Derived/Test/ToyasCard.lean, 'card_holds'). Laid BY PROGRAM, IN A SANDBOX (cutbox-door.mjs). By AI agents, Wed Nov 11 2026. No macro, syntax, notation, axiom, sorry.
-/
import Derived.Test.YtngaboipleimcaaGreatDoorRows
import GoSem.ClaimSeven
namespace Go.Proofs.YtngaboipleimcaaGreatDoor
namespace Rows

/-- THE TIED CARD OF 'laws.FnExactLogApply'. -/
def fnExactLogApplyCard : Claim7 := { stood := { row := fnExactLogApplyRow, standIns := [], harness := (true, "5ff09ff7715b9c6cdf559b2d0986a33d3c32250f4fb614a3b0a757ee0306b0d9"), looks := true }, kinds := [], alts := [], laidByText := true, laidKinds := [.handle], laidTests := true, laidLooks := .later }
def FnExactLogApplyCardSaid : Prop := Claim7.holds Tryz.pinned (.plain (OpenSpec.ofChange fnExactLogApplySpec)) fnExactLogApplyCard

/-- THE TIED CARD OF 'laws.FnExactLogFold'. -/
def fnExactLogFoldCard : Claim7 := { stood := { row := fnExactLogFoldRow, standIns := [], harness := (true, "5ff09ff7715b9c6cdf559b2d0986a33d3c32250f4fb614a3b0a757ee0306b0d9"), looks := true }, kinds := [], alts := [], laidByText := true, laidKinds := [.handle], laidTests := true, laidLooks := .later }
def FnExactLogFoldCardSaid : Prop := Claim7.holds Tryz.pinned (.plain (OpenSpec.ofChange fnExactLogFoldSpec)) fnExactLogFoldCard

/-- THE TIED CARD OF 'laws.FnExactStoOk'. -/
def fnExactStoOkCard : Claim7 := { stood := { row := fnExactStoOkRow, standIns := [], harness := (true, "5ff09ff7715b9c6cdf559b2d0986a33d3c32250f4fb614a3b0a757ee0306b0d9"), looks := true }, kinds := [], alts := [], laidByText := true, laidKinds := [.handle], laidTests := true, laidLooks := .later }
def FnExactStoOkCardSaid : Prop := Claim7.holds Tryz.pinned (.plain (OpenSpec.ofChange fnExactStoOkSpec)) fnExactStoOkCard

/-- THE TIED CARD OF 'laws.FnExactStoState'. -/
def fnExactStoStateCard : Claim7 := { stood := { row := fnExactStoStateRow, standIns := [], harness := (true, "5ff09ff7715b9c6cdf559b2d0986a33d3c32250f4fb614a3b0a757ee0306b0d9"), looks := true }, kinds := [], alts := [], laidByText := true, laidKinds := [.handle], laidTests := true, laidLooks := .later }
def FnExactStoStateCardSaid : Prop := Claim7.holds Tryz.pinned (.plain (OpenSpec.ofChange fnExactStoStateSpec)) fnExactStoStateCard

/-- THE TIED CARD OF 'laws.FnExactStoFence'. -/
def fnExactStoFenceCard : Claim7 := { stood := { row := fnExactStoFenceRow, standIns := [], harness := (true, "5ff09ff7715b9c6cdf559b2d0986a33d3c32250f4fb614a3b0a757ee0306b0d9"), looks := true }, kinds := [], alts := [], laidByText := true, laidKinds := [.handle], laidTests := true, laidLooks := .later }
def FnExactStoFenceCardSaid : Prop := Claim7.holds Tryz.pinned (.plain (OpenSpec.ofChange fnExactStoFenceSpec)) fnExactStoFenceCard

/-- THE TIED CARD OF 'laws.FnExactStoAppend'. -/
def fnExactStoAppendCard : Claim7 := { stood := { row := fnExactStoAppendRow, standIns := [], harness := (true, "5ff09ff7715b9c6cdf559b2d0986a33d3c32250f4fb614a3b0a757ee0306b0d9"), looks := true }, kinds := [], alts := [], laidByText := true, laidKinds := [.handle], laidTests := true, laidLooks := .later }
def FnExactStoAppendCardSaid : Prop := Claim7.holds Tryz.pinned (.plain (OpenSpec.ofChange fnExactStoAppendSpec)) fnExactStoAppendCard

/-- THE SECOND FORM's CARD OF 'laws.FnExactLogApply'. -/
def fnExactLogApplyUptoCard : Claim7 := { stood := { row := fnExactLogApplyUptoRow, standIns := [], harness := (true, "5ff09ff7715b9c6cdf559b2d0986a33d3c32250f4fb614a3b0a757ee0306b0d9"), looks := true }, kinds := [], alts := [], laidByText := true, laidKinds := [.handle], laidTests := true, laidLooks := .later }
def FnExactLogApplyUptoCardSaid : Prop := Claim7.holds Tryz.pinned (.plain (OpenSpec.upto fnExactLogApplySpec)) fnExactLogApplyUptoCard

/-- THE SECOND FORM's CARD OF 'laws.FnExactLogFold'. -/
def fnExactLogFoldUptoCard : Claim7 := { stood := { row := fnExactLogFoldUptoRow, standIns := [], harness := (true, "5ff09ff7715b9c6cdf559b2d0986a33d3c32250f4fb614a3b0a757ee0306b0d9"), looks := true }, kinds := [], alts := [], laidByText := true, laidKinds := [.handle], laidTests := true, laidLooks := .later }
def FnExactLogFoldUptoCardSaid : Prop := Claim7.holds Tryz.pinned (.plain (OpenSpec.upto fnExactLogFoldSpec)) fnExactLogFoldUptoCard

/-- THE SECOND FORM's CARD OF 'laws.FnExactStoOk'. -/
def fnExactStoOkUptoCard : Claim7 := { stood := { row := fnExactStoOkUptoRow, standIns := [], harness := (true, "5ff09ff7715b9c6cdf559b2d0986a33d3c32250f4fb614a3b0a757ee0306b0d9"), looks := true }, kinds := [], alts := [], laidByText := true, laidKinds := [.handle], laidTests := true, laidLooks := .later }
def FnExactStoOkUptoCardSaid : Prop := Claim7.holds Tryz.pinned (.plain (OpenSpec.upto fnExactStoOkSpec)) fnExactStoOkUptoCard

/-- THE SECOND FORM's CARD OF 'laws.FnExactStoState'. -/
def fnExactStoStateUptoCard : Claim7 := { stood := { row := fnExactStoStateUptoRow, standIns := [], harness := (true, "5ff09ff7715b9c6cdf559b2d0986a33d3c32250f4fb614a3b0a757ee0306b0d9"), looks := true }, kinds := [], alts := [], laidByText := true, laidKinds := [.handle], laidTests := true, laidLooks := .later }
def FnExactStoStateUptoCardSaid : Prop := Claim7.holds Tryz.pinned (.plain (OpenSpec.upto fnExactStoStateSpec)) fnExactStoStateUptoCard

/-- THE SECOND FORM's CARD OF 'laws.FnExactStoFence'. -/
def fnExactStoFenceUptoCard : Claim7 := { stood := { row := fnExactStoFenceUptoRow, standIns := [], harness := (true, "5ff09ff7715b9c6cdf559b2d0986a33d3c32250f4fb614a3b0a757ee0306b0d9"), looks := true }, kinds := [], alts := [], laidByText := true, laidKinds := [.handle], laidTests := true, laidLooks := .later }
def FnExactStoFenceUptoCardSaid : Prop := Claim7.holds Tryz.pinned (.plain (OpenSpec.upto fnExactStoFenceSpec)) fnExactStoFenceUptoCard

/-- THE SECOND FORM's CARD OF 'laws.FnExactStoAppend'. -/
def fnExactStoAppendUptoCard : Claim7 := { stood := { row := fnExactStoAppendUptoRow, standIns := [], harness := (true, "5ff09ff7715b9c6cdf559b2d0986a33d3c32250f4fb614a3b0a757ee0306b0d9"), looks := true }, kinds := [], alts := [], laidByText := true, laidKinds := [.handle], laidTests := true, laidLooks := .later }
def FnExactStoAppendUptoCardSaid : Prop := Claim7.holds Tryz.pinned (.plain (OpenSpec.upto fnExactStoAppendSpec)) fnExactStoAppendUptoCard
end Rows
end Go.Proofs.YtngaboipleimcaaGreatDoor
