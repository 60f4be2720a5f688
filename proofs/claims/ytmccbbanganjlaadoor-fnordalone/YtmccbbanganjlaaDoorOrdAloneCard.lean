/- For every two codes the law FnOrdAlone answers true, and the codes read as they did; conditions: none beyond the card's own: the library's tables are those of the program's text. -/
import Derived.Test.YtmccbbanganjlaaDoorCards
import Derived.Test.YtmccbbanganjlaaDoorTie
import Derived.Test.YtmccbbanganjlaaDoorOrdAlone
import Derived.SevenTiedAt
namespace Go.Proofs.YtmccbbanganjlaaDoor
open Go
theorem ordAlone_holds : Rows.FnOrdAloneCardSaid :=
  Claim7.holds_tied_plain_at .later [] [.data, .data, .data] true (true, "d0509b3c802bfb6b098c56f0dbf594535191d437be31c0134f423eb28250824c") true
    OrdAloneDone.over (fun _ h => by cases h) (by kernel_rfl) (fun _ h => by cases h) fnOrdAlone_row_tie rfl ⟨rfl, rfl⟩ (by kernel_rfl) rfl
    (fun f fn hf hfn => by
      obtain rfl : f = 4 := Option.some.inj ((show Tryd.prog.funcNamed Tryd.f4.name = some 4 by kernel_rfl).symm.trans hf) |>.symm
      obtain rfl : fn = Tryd.f4 := (Option.some.inj (Tryd.func4.symm.trans hfn)).symm
      exact ⟨by kernel_rfl, fun j t ht => by
        rw [Tryd.params4] at ht
        have hm : t ∈ [22, 22] := by simpa using Array.mem_of_getElem? ht
        have hall : ([22, 22].all fun u => !Tryd.prog.wantsStandIn u) = true := by kernel_rfl
        exact (show Tryd.prog.wantsStandIn t = false by simpa using List.all_eq_true.1 hall t hm)⟩)
    (by kernel_rfl)
end Go.Proofs.YtmccbbanganjlaaDoor
