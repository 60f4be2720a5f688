/- For every line the program's DskEvent answers as the model's DskEvent, and the call leaves its argument as it was; conditions: none beyond the card's own: the library's tables and sentinels are those of the program's text. -/
import Derived.Test.YtgioecjnghllhaaDoorCards
import Derived.Test.YtgioecjnghllhaaDoorTie
import Derived.Test.YtgioecjnghllhaaDoorDskEvent
import Derived.SevenTiedAt
namespace Go.Proofs.YtgioecjnghllhaaDoor
open Go
theorem dskEvent_holds : Rows.FnExactDskEventCardSaid :=
  Claim7.holds_tied_plain_at .later [] [.data, .data, .data, .data, .sentinel, .sentinel, .pinned] true (true, "6dca299cea7f481ee3128540d66344d4af8d5aaa93069e582e960246798f5bc2") true
    ExactDskEventDone.over (fun _ h => by cases h) (by kernel_rfl) (fun _ h => by cases h) fnExactDskEvent_row_tie rfl ⟨rfl, rfl⟩ (by kernel_rfl) rfl
    (fun f fn hf hfn => by
      obtain rfl : f = 3 := Option.some.inj ((show Tryd.prog.funcNamed Tryd.f3.name = some 3 by kernel_rfl).symm.trans hf) |>.symm
      obtain rfl : fn = Tryd.f3 := (Option.some.inj (Tryd.func3.symm.trans hfn)).symm
      exact ⟨by kernel_rfl, fun j t ht => by
        rw [Tryd.params3] at ht
        have hm : t ∈ [9] := by simpa using Array.mem_of_getElem? ht
        have hall : ([9].all fun u => !Tryd.prog.wantsStandIn u) = true := by kernel_rfl
        exact (show Tryd.prog.wantsStandIn t = false by simpa using List.all_eq_true.1 hall t hm)⟩)
    (by kernel_rfl)
end Go.Proofs.YtgioecjnghllhaaDoor
