/- For every code the law FnDskEvent answers true: the drawn line is read by the program as by the model, with three words more behind it it is none, and the code reads as it did; conditions: none beyond the card's own: the library's tables and sentinels are those of the program's text. -/
import Derived.Test.YtalmnogdplhflaaGreatDoorCards
import Derived.Test.YtalmnogdplhflaaGreatDoorTie
import Derived.Test.YtalmnogdplhflaaGreatDoorDskEventLaw
import Derived.SevenTiedAt
namespace Go.Proofs.YtalmnogdplhflaaGreatDoor
open Go
theorem dskEventLaw_holds : Rows.FnDskEventCardSaid :=
  Claim7.holds_tied_plain_at .later [] [.data, .data, .data, .data, .sentinel, .sentinel, .pinned] true (true, "1f6eb38a6eefb7164dcf8ef1110c2e3ef7fcf112cec9d0304f254998a30d9e80") true
    DskEventLawDone.over (fun _ h => by cases h) (by kernel_rfl) (fun _ h => by cases h) fnDskEvent_row_tie rfl ⟨rfl, rfl⟩ (by kernel_rfl) rfl
    (fun f fn hf hfn => by
      obtain rfl : f = 3 := Option.some.inj ((show Tryz.prog.funcNamed Tryz.f3.name = some 3 by kernel_rfl).symm.trans hf) |>.symm
      obtain rfl : fn = Tryz.f3 := (Option.some.inj (Tryz.func3.symm.trans hfn)).symm
      exact ⟨by kernel_rfl, fun j t ht => by
        rw [Tryz.params3] at ht
        have hm : t ∈ [22] := by simpa using Array.mem_of_getElem? ht
        have hall : ([22].all fun u => !Tryz.prog.wantsStandIn u) = true := by kernel_rfl
        exact (show Tryz.prog.wantsStandIn t = false by simpa using List.all_eq_true.1 hall t hm)⟩)
    (by kernel_rfl)
end Go.Proofs.YtalmnogdplhflaaGreatDoor
