/- For every text the program's WlkRead answers as the model's WlkRead, and the call leaves its argument as it was; conditions: none beyond the card's own: the library's tables and sentinels are those of the program's text. -/
import Derived.Test.YtalahcfebiencaaDoorCards
import Derived.Test.YtalahcfebiencaaDoorTie
import Derived.Test.YtalahcfebiencaaDoorWlkRead
import Derived.SevenTiedAt
namespace Go.Proofs.YtalahcfebiencaaDoor
open Go
theorem wlkRead_holds : Rows.FnExactWlkReadCardSaid :=
  Claim7.holds_tied_plain_at .later [] [.data, .data, .data, .data, .sentinel, .sentinel, .pinned] true (true, "6445655e8a6bfff5d1bd9be3bfb1917ac5a4ea5a775c43a1cf3019bac2ecf3be") true
    WlkReadDone.over (fun _ h => by cases h) (by kernel_rfl) (fun _ h => by cases h) fnExactWlkRead_row_tie rfl ⟨rfl, rfl⟩ (by kernel_rfl) rfl
    (fun f fn hf hfn => by
      obtain rfl : f = 3 := Option.some.inj ((show Tryd.prog.funcNamed Tryd.f3.name = some 3 by kernel_rfl).symm.trans hf) |>.symm
      obtain rfl : fn = Tryd.f3 := (Option.some.inj (Tryd.func3.symm.trans hfn)).symm
      exact ⟨by kernel_rfl, fun j t ht => by
        rw [Tryd.params3] at ht
        have hm : t ∈ [9] := by simpa using Array.mem_of_getElem? ht
        have hall : ([9].all fun u => !Tryd.prog.wantsStandIn u) = true := by kernel_rfl
        exact (show Tryd.prog.wantsStandIn t = false by simpa using List.all_eq_true.1 hall t hm)⟩)
    (by kernel_rfl)
end Go.Proofs.YtalahcfebiencaaDoor
