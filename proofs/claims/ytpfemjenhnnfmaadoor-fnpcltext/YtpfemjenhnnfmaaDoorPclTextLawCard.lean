/- For every two codes the law FnPclText answers true, and the codes read as they did; conditions: none beyond the card's own: the library's tables and sentinels are those of the program's text. -/
import Derived.Test.YtpfemjenhnnfmaaDoorCards
import Derived.Test.YtpfemjenhnnfmaaDoorTie
import Derived.Test.YtpfemjenhnnfmaaDoorPclTextLaw
import Derived.SevenTiedAt
namespace Go.Proofs.YtpfemjenhnnfmaaDoor
open Go
theorem pclTextLaw_holds : Rows.FnPclTextCardSaid :=
  Claim7.holds_tied_plain_at .later [] [.data, .data, .data, .data, .sentinel, .sentinel, .pinned] true (true, "725c335e012b459f19b512b1625978ac3188b761f1850d54dae1a8a2eb5dd442") true
    PclTextLawDone.over (fun _ h => by cases h) (by kernel_rfl) (fun _ h => by cases h) fnPclText_row_tie rfl ⟨rfl, rfl⟩ (by kernel_rfl) rfl
    (fun f fn hf hfn => by
      obtain rfl : f = 3 := Option.some.inj ((show Tryd.prog.funcNamed Tryd.f3.name = some 3 by kernel_rfl).symm.trans hf) |>.symm
      obtain rfl : fn = Tryd.f3 := (Option.some.inj (Tryd.func3.symm.trans hfn)).symm
      exact ⟨by kernel_rfl, fun j t ht => by
        rw [Tryd.params3] at ht
        have hm : t ∈ [22, 22] := by simpa using Array.mem_of_getElem? ht
        have hall : ([22, 22].all fun u => !Tryd.prog.wantsStandIn u) = true := by kernel_rfl
        exact (show Tryd.prog.wantsStandIn t = false by simpa using List.all_eq_true.1 hall t hm)⟩)
    (by kernel_rfl)
end Go.Proofs.YtpfemjenhnnfmaaDoor
