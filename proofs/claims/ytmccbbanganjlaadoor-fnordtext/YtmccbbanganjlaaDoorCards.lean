/-
  DERIVED. GIVEN WITH THE SEED: THE CARDS: each row of YtmccbbanganjlaaDoorRows.lean that lists a variable, with what it lists TIED to the program's text (the seventh form; the later family's looks); each row that meets fmt, with fmt's text TOLD by the authors' own Lean function (tested against real Go, not proved from fmt's source: count such statements apart). THE CARD IS WHAT COUNTS. Prove the row's statement (the work); the ties are given (YtmccbbanganjlaaDoorTie.lean); close each card by the builder's one call (the guide's Derived/Test/ToyasCard.lean, 'card_holds'). Laid BY PROGRAM, IN A SANDBOX (cutbox-door.mjs). By AI agents, Wed Nov 11 2026. No macro, syntax, notation, axiom, sorry.
-/
import Derived.Test.YtmccbbanganjlaaDoorRows
import GoSem.ClaimSeven
namespace Go.Proofs.YtmccbbanganjlaaDoor
namespace Rows

/-- THE TIED CARD OF 'laws.FnOrdText'. -/
def fnOrdTextCard : Claim7 := { stood := { row := fnOrdTextRow, standIns := [], harness := (true, "d0509b3c802bfb6b098c56f0dbf594535191d437be31c0134f423eb28250824c"), looks := true }, kinds := [], alts := [], laidByText := true, laidKinds := [.data, .data, .data, .data, .sentinel, .sentinel, .pinned], laidTests := true, laidLooks := .later }
def FnOrdTextCardSaid : Prop := Claim7.holds Tryd.pinned (.plain (OpenSpec.ofChange fnOrdTextSpec)) fnOrdTextCard

/-- THE TIED CARD OF 'laws.FnOrdAlone'. -/
def fnOrdAloneCard : Claim7 := { stood := { row := fnOrdAloneRow, standIns := [], harness := (true, "d0509b3c802bfb6b098c56f0dbf594535191d437be31c0134f423eb28250824c"), looks := true }, kinds := [], alts := [], laidByText := true, laidKinds := [.data, .data, .data], laidTests := true, laidLooks := .later }
def FnOrdAloneCardSaid : Prop := Claim7.holds Tryd.pinned (.plain (OpenSpec.ofChange fnOrdAloneSpec)) fnOrdAloneCard

/-- THE TIED CARD OF 'laws.FnExactOrdText'. -/
def fnExactOrdTextCard : Claim7 := { stood := { row := fnExactOrdTextRow, standIns := [], harness := (true, "d0509b3c802bfb6b098c56f0dbf594535191d437be31c0134f423eb28250824c"), looks := true }, kinds := [], alts := [], laidByText := true, laidKinds := [.data, .data, .data], laidTests := true, laidLooks := .later }
def FnExactOrdTextCardSaid : Prop := Claim7.holds Tryd.pinned (.plain (OpenSpec.ofChange fnExactOrdTextSpec)) fnExactOrdTextCard

/-- THE TIED CARD OF 'laws.FnExactOrdRead'. -/
def fnExactOrdReadCard : Claim7 := { stood := { row := fnExactOrdReadRow, standIns := [], harness := (true, "d0509b3c802bfb6b098c56f0dbf594535191d437be31c0134f423eb28250824c"), looks := true }, kinds := [], alts := [], laidByText := true, laidKinds := [.data, .data, .data, .data, .sentinel, .sentinel, .pinned], laidTests := true, laidLooks := .later }
def FnExactOrdReadCardSaid : Prop := Claim7.holds Tryd.pinned (.plain (OpenSpec.ofChange fnExactOrdReadSpec)) fnExactOrdReadCard

/-- THE TIED CARD OF 'laws.FnExactPclText'. -/
def fnExactPclTextCard : Claim7 := { stood := { row := fnExactPclTextRow, standIns := [], harness := (true, "d0509b3c802bfb6b098c56f0dbf594535191d437be31c0134f423eb28250824c"), looks := true }, kinds := [], alts := [], laidByText := true, laidKinds := [.data, .data, .data], laidTests := true, laidLooks := .later }
def FnExactPclTextCardSaid : Prop := Claim7.holds Tryd.pinned (.plain (OpenSpec.ofChange fnExactPclTextSpec)) fnExactPclTextCard

/-- THE TIED CARD OF 'laws.FnExactPclRead'. -/
def fnExactPclReadCard : Claim7 := { stood := { row := fnExactPclReadRow, standIns := [], harness := (true, "d0509b3c802bfb6b098c56f0dbf594535191d437be31c0134f423eb28250824c"), looks := true }, kinds := [], alts := [], laidByText := true, laidKinds := [.data, .data, .data, .data, .sentinel, .sentinel, .pinned], laidTests := true, laidLooks := .later }
def FnExactPclReadCardSaid : Prop := Claim7.holds Tryd.pinned (.plain (OpenSpec.ofChange fnExactPclReadSpec)) fnExactPclReadCard

/-- THE SECOND FORM's CARD OF 'laws.FnOrdText'. -/
def fnOrdTextUptoCard : Claim7 := { stood := { row := fnOrdTextUptoRow, standIns := [], harness := (true, "d0509b3c802bfb6b098c56f0dbf594535191d437be31c0134f423eb28250824c"), looks := true }, kinds := [], alts := [], laidByText := true, laidKinds := [.data, .data, .data, .data, .sentinel, .sentinel, .pinned], laidTests := true, laidLooks := .later }
def FnOrdTextUptoCardSaid : Prop := Claim7.holds Tryd.pinned (.plain (OpenSpec.upto fnOrdTextSpec)) fnOrdTextUptoCard

/-- THE SECOND FORM's CARD OF 'laws.FnOrdAlone'. -/
def fnOrdAloneUptoCard : Claim7 := { stood := { row := fnOrdAloneUptoRow, standIns := [], harness := (true, "d0509b3c802bfb6b098c56f0dbf594535191d437be31c0134f423eb28250824c"), looks := true }, kinds := [], alts := [], laidByText := true, laidKinds := [.data, .data, .data], laidTests := true, laidLooks := .later }
def FnOrdAloneUptoCardSaid : Prop := Claim7.holds Tryd.pinned (.plain (OpenSpec.upto fnOrdAloneSpec)) fnOrdAloneUptoCard

/-- THE SECOND FORM's CARD OF 'laws.FnExactOrdText'. -/
def fnExactOrdTextUptoCard : Claim7 := { stood := { row := fnExactOrdTextUptoRow, standIns := [], harness := (true, "d0509b3c802bfb6b098c56f0dbf594535191d437be31c0134f423eb28250824c"), looks := true }, kinds := [], alts := [], laidByText := true, laidKinds := [.data, .data, .data], laidTests := true, laidLooks := .later }
def FnExactOrdTextUptoCardSaid : Prop := Claim7.holds Tryd.pinned (.plain (OpenSpec.upto fnExactOrdTextSpec)) fnExactOrdTextUptoCard

/-- THE SECOND FORM's CARD OF 'laws.FnExactOrdRead'. -/
def fnExactOrdReadUptoCard : Claim7 := { stood := { row := fnExactOrdReadUptoRow, standIns := [], harness := (true, "d0509b3c802bfb6b098c56f0dbf594535191d437be31c0134f423eb28250824c"), looks := true }, kinds := [], alts := [], laidByText := true, laidKinds := [.data, .data, .data, .data, .sentinel, .sentinel, .pinned], laidTests := true, laidLooks := .later }
def FnExactOrdReadUptoCardSaid : Prop := Claim7.holds Tryd.pinned (.plain (OpenSpec.upto fnExactOrdReadSpec)) fnExactOrdReadUptoCard

/-- THE SECOND FORM's CARD OF 'laws.FnExactPclText'. -/
def fnExactPclTextUptoCard : Claim7 := { stood := { row := fnExactPclTextUptoRow, standIns := [], harness := (true, "d0509b3c802bfb6b098c56f0dbf594535191d437be31c0134f423eb28250824c"), looks := true }, kinds := [], alts := [], laidByText := true, laidKinds := [.data, .data, .data], laidTests := true, laidLooks := .later }
def FnExactPclTextUptoCardSaid : Prop := Claim7.holds Tryd.pinned (.plain (OpenSpec.upto fnExactPclTextSpec)) fnExactPclTextUptoCard

/-- THE SECOND FORM's CARD OF 'laws.FnExactPclRead'. -/
def fnExactPclReadUptoCard : Claim7 := { stood := { row := fnExactPclReadUptoRow, standIns := [], harness := (true, "d0509b3c802bfb6b098c56f0dbf594535191d437be31c0134f423eb28250824c"), looks := true }, kinds := [], alts := [], laidByText := true, laidKinds := [.data, .data, .data, .data, .sentinel, .sentinel, .pinned], laidTests := true, laidLooks := .later }
def FnExactPclReadUptoCardSaid : Prop := Claim7.holds Tryd.pinned (.plain (OpenSpec.upto fnExactPclReadSpec)) fnExactPclReadUptoCard
end Rows
end Go.Proofs.YtmccbbanganjlaaDoor
