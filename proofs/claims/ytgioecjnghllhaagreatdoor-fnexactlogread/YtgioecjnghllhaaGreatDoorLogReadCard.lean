/- For every text the program's LogRead answers as the model's LogRead, and the call leaves its argument as it was; conditions: none beyond the card's own: the library's tables and sentinels are those of the program's text. -/
import Derived.Test.YtgioecjnghllhaaGreatDoorCards
import Derived.Test.YtgioecjnghllhaaGreatDoorTie
import Derived.Test.YtgioecjnghllhaaGreatDoorLogRead
import Derived.SevenTiedAt
namespace Go.Proofs.YtgioecjnghllhaaGreatDoor
open Go
theorem logRead_holds : Rows.FnExactLogReadCardSaid :=
  Claim7.holds_tied_plain_at .later [] [.data, .data, .data, .data, .sentinel, .sentinel, .pinned] true (true, "0ba48d8fd114b870567026aa28e28dc1f33da84895cee0998e0751fda1aef137") true
    ExactLogReadDone.over (fun _ h => by cases h) (by kernel_rfl) (fun _ h => by cases h) fnExactLogRead_row_tie rfl ⟨rfl, rfl⟩ (by kernel_rfl) rfl
    (fun f fn hf hfn => by
      obtain rfl : f = 3 := Option.some.inj ((show Tryz.prog.funcNamed Tryz.f3.name = some 3 by kernel_rfl).symm.trans hf) |>.symm
      obtain rfl : fn = Tryz.f3 := (Option.some.inj (Tryz.func3.symm.trans hfn)).symm
      exact ⟨by kernel_rfl, fun j t ht => by
        rw [Tryz.params3] at ht
        have hm : t ∈ [9] := by simpa using Array.mem_of_getElem? ht
        have hall : ([9].all fun u => !Tryz.prog.wantsStandIn u) = true := by kernel_rfl
        exact (show Tryz.prog.wantsStandIn t = false by simpa using List.all_eq_true.1 hall t hm)⟩)
    (by kernel_rfl)
end Go.Proofs.YtgioecjnghllhaaGreatDoor
