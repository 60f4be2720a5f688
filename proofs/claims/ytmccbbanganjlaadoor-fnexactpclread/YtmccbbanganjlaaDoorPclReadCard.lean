/- For every text the program's PclRead answers as the model's PclRead, and the call leaves its argument as it was; conditions: none beyond the card's own: the library's tables and sentinels are those of the program's text. -/
import Derived.Test.YtmccbbanganjlaaDoorCards
import Derived.Test.YtmccbbanganjlaaDoorTie
import Derived.Test.YtmccbbanganjlaaDoorPclRead
import Derived.SevenTiedAt
namespace Go.Proofs.YtmccbbanganjlaaDoor
open Go
theorem pclRead_holds : Rows.FnExactPclReadCardSaid :=
  Claim7.holds_tied_plain_at .later [] [.data, .data, .data, .data, .sentinel, .sentinel, .pinned] true (true, "d0509b3c802bfb6b098c56f0dbf594535191d437be31c0134f423eb28250824c") true
    ExactPclReadDone.over (fun _ h => by cases h) (by kernel_rfl) (fun _ h => by cases h) fnExactPclRead_row_tie rfl ⟨rfl, rfl⟩ (by kernel_rfl) rfl
    (fun f fn hf hfn => by
      obtain rfl : f = 8 := Option.some.inj ((show Tryd.prog.funcNamed Tryd.f8.name = some 8 by kernel_rfl).symm.trans hf) |>.symm
      obtain rfl : fn = Tryd.f8 := (Option.some.inj (Tryd.func8.symm.trans hfn)).symm
      exact ⟨by kernel_rfl, fun j t ht => by
        rw [Tryd.params8] at ht
        have hm : t ∈ [9] := by simpa using Array.mem_of_getElem? ht
        have hall : ([9].all fun u => !Tryd.prog.wantsStandIn u) = true := by kernel_rfl
        exact (show Tryd.prog.wantsStandIn t = false by simpa using List.all_eq_true.1 hall t hm)⟩)
    (by kernel_rfl)
end Go.Proofs.YtmccbbanganjlaaDoor
