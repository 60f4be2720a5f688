/- For every map, cell and order the program's CllDo answers as the model's CllDo; it writes into no argument, and its answer owns its memory, behind another call too; conditions: none beyond the card's own: the library's variable errors.errorType is what the program's text lays. -/
import Derived.Test.YthbkjfkkdaheoaaGreatDoorCards
import Derived.Test.YthbkjfkkdaheoaaGreatDoorTie
import Derived.Test.YthbkjfkkdaheoaaGreatDoorCllDo
import Derived.SevenTiedAt
namespace Go.Proofs.YthbkjfkkdaheoaaGreatDoor
open Go
theorem cllDo_holds : Rows.FnExactCllDoCardSaid :=
  Claim7.holds_tied_plain_at .later [] [.handle] true (true, "b356c19f702dca4c308d5c1412b26e1502017045940294548aed86b890939dfb") true
    FnExactCllDoDone.over (fun _ h => by cases h) (by kernel_rfl) (fun _ h => by cases h) fnExactCllDo_row_tie rfl ⟨rfl, rfl⟩ (by kernel_rfl) rfl
    (fun f fn hf hfn => by
      obtain rfl : f = 3 := Option.some.inj ((show Tryz.prog.funcNamed Tryz.f3.name = some 3 by kernel_rfl).symm.trans hf) |>.symm
      obtain rfl : fn = Tryz.f3 := (Option.some.inj (Tryz.func3.symm.trans hfn)).symm
      exact ⟨by kernel_rfl, fun j t ht => by
        rw [Tryz.params3] at ht
        have hm : t ∈ [23, 28, 30] := by simpa using Array.mem_of_getElem? ht
        have hall : ([23, 28, 30].all fun u => !Tryz.prog.wantsStandIn u) = true := by kernel_rfl
        exact (show Tryz.prog.wantsStandIn t = false by simpa using List.all_eq_true.1 hall t hm)⟩)
    (by kernel_rfl)
end Go.Proofs.YthbkjfkkdaheoaaGreatDoor
