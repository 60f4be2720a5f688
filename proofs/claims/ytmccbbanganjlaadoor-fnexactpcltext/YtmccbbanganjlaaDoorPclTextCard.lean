/- For every parcel the program's PclText answers as the model's PclText, and the call leaves its argument as it was; conditions: none beyond the card's own: the library's tables are those of the program's text. -/
import Derived.Test.YtmccbbanganjlaaDoorCards
import Derived.Test.YtmccbbanganjlaaDoorTie
import Derived.Test.YtmccbbanganjlaaDoorPclText
import Derived.SevenTiedAt
namespace Go.Proofs.YtmccbbanganjlaaDoor
open Go
theorem pclText_holds : Rows.FnExactPclTextCardSaid :=
  Claim7.holds_tied_plain_at .later [] [.data, .data, .data] true (true, "d0509b3c802bfb6b098c56f0dbf594535191d437be31c0134f423eb28250824c") true
    ExactPclTextDone.over (fun _ h => by cases h) (by kernel_rfl) (fun _ h => by cases h) fnExactPclText_row_tie rfl ⟨rfl, rfl⟩ (by kernel_rfl) rfl
    (fun f fn hf hfn => by
      obtain rfl : f = 7 := Option.some.inj ((show Tryd.prog.funcNamed Tryd.f7.name = some 7 by kernel_rfl).symm.trans hf) |>.symm
      obtain rfl : fn = Tryd.f7 := (Option.some.inj (Tryd.func7.symm.trans hfn)).symm
      exact ⟨by kernel_rfl, fun j t ht => by
        rw [Tryd.params7] at ht
        have hm : t ∈ [40] := by simpa using Array.mem_of_getElem? ht
        have hall : ([40].all fun u => !Tryd.prog.wantsStandIn u) = true := by kernel_rfl
        exact (show Tryd.prog.wantsStandIn t = false by simpa using List.all_eq_true.1 hall t hm)⟩)
    (by kernel_rfl)
end Go.Proofs.YtmccbbanganjlaaDoor
