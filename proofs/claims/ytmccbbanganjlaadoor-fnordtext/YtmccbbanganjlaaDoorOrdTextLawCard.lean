/- For every two codes the law FnOrdText answers true, and the codes read as they did; conditions: none beyond the card's own: the library's tables and sentinels are those of the program's text. -/
import Derived.Test.YtmccbbanganjlaaDoorCards
import Derived.Test.YtmccbbanganjlaaDoorTie
import Derived.Test.YtmccbbanganjlaaDoorOrdTextLaw
import Derived.SevenTiedAt
namespace Go.Proofs.YtmccbbanganjlaaDoor
open Go
theorem ordTextLaw_holds : Rows.FnOrdTextCardSaid :=
  Claim7.holds_tied_plain_at .later [] [.data, .data, .data, .data, .sentinel, .sentinel, .pinned] true (true, "d0509b3c802bfb6b098c56f0dbf594535191d437be31c0134f423eb28250824c") true
    OrdTextLawDone.over (fun _ h => by cases h) (by kernel_rfl) (fun _ h => by cases h) fnOrdText_row_tie rfl ⟨rfl, rfl⟩ (by kernel_rfl) rfl
    (fun f fn hf hfn => by
      obtain rfl : f = 3 := Option.some.inj ((show Tryd.prog.funcNamed Tryd.f3.name = some 3 by kernel_rfl).symm.trans hf) |>.symm
      obtain rfl : fn = Tryd.f3 := (Option.some.inj (Tryd.func3.symm.trans hfn)).symm
      exact ⟨by kernel_rfl, fun j t ht => by
        rw [Tryd.params3] at ht
        have hm : t ∈ [22, 22] := by simpa using Array.mem_of_getElem? ht
        have hall : ([22, 22].all fun u => !Tryd.prog.wantsStandIn u) = true := by kernel_rfl
        exact (show Tryd.prog.wantsStandIn t = false by simpa using List.all_eq_true.1 hall t hm)⟩)
    (by kernel_rfl)
end Go.Proofs.YtmccbbanganjlaaDoor
