/- For every text the program's OrdRead answers as the model's OrdRead, and the call leaves its argument as it was; conditions: none beyond the card's own: the library's tables and sentinels are those of the program's text. -/
import Derived.Test.YtmccbbanganjlaaDoorCards
import Derived.Test.YtmccbbanganjlaaDoorTie
import Derived.Test.YtmccbbanganjlaaDoorOrdRead
import Derived.SevenTiedAt
namespace Go.Proofs.YtmccbbanganjlaaDoor
open Go
theorem ordRead_holds : Rows.FnExactOrdReadCardSaid :=
  Claim7.holds_tied_plain_at .later [] [.data, .data, .data, .data, .sentinel, .sentinel, .pinned] true (true, "d0509b3c802bfb6b098c56f0dbf594535191d437be31c0134f423eb28250824c") true
    ExactOrdReadDone.over (fun _ h => by cases h) (by kernel_rfl) (fun _ h => by cases h) fnExactOrdRead_row_tie rfl ⟨rfl, rfl⟩ (by kernel_rfl) rfl
    (fun f fn hf hfn => by
      obtain rfl : f = 6 := Option.some.inj ((show Tryd.prog.funcNamed Tryd.f6.name = some 6 by kernel_rfl).symm.trans hf) |>.symm
      obtain rfl : fn = Tryd.f6 := (Option.some.inj (Tryd.func6.symm.trans hfn)).symm
      exact ⟨by kernel_rfl, fun j t ht => by
        rw [Tryd.params6] at ht
        have hm : t ∈ [9] := by simpa using Array.mem_of_getElem? ht
        have hall : ([9].all fun u => !Tryd.prog.wantsStandIn u) = true := by kernel_rfl
        exact (show Tryd.prog.wantsStandIn t = false by simpa using List.all_eq_true.1 hall t hm)⟩)
    (by kernel_rfl)
end Go.Proofs.YtmccbbanganjlaaDoor
