/- For every walker the program's WlkText answers as the model's WlkText, and the call leaves its argument as it was; conditions: none beyond the card's own: the library's tables are those of the program's text. -/
import Derived.Test.YtpmgaeollikjhaaDoorCards
import Derived.Test.YtpmgaeollikjhaaDoorTie
import Derived.Test.YtpmgaeollikjhaaDoorWlkText
import Derived.SevenTiedAt
namespace Go.Proofs.YtpmgaeollikjhaaDoor
open Go
theorem wlkText_holds : Rows.FnExactWlkTextCardSaid :=
  Claim7.holds_tied_plain_at .later [] [.data, .data, .data] true (true, "cd86506b50593b583b0bd31b2981e4c83a2f3959b0deb2a46cdd06fe89a11d2d") false
    WlkTextDone.over (fun _ h => by cases h) (by kernel_rfl) (fun _ h => by cases h) fnExactWlkText_row_tie rfl ⟨rfl, rfl⟩ (by kernel_rfl) rfl
    (fun f fn hf hfn => by
      obtain rfl : f = 3 := Option.some.inj ((show Tryd.prog.funcNamed Tryd.f3.name = some 3 by kernel_rfl).symm.trans hf) |>.symm
      obtain rfl : fn = Tryd.f3 := (Option.some.inj (Tryd.func3.symm.trans hfn)).symm
      exact ⟨by kernel_rfl, fun j t ht => by
        rw [Tryd.params3] at ht
        have hm : t ∈ [23] := by simpa using Array.mem_of_getElem? ht
        have hall : ([23].all fun u => !Tryd.prog.wantsStandIn u) = true := by kernel_rfl
        exact (show Tryd.prog.wantsStandIn t = false by simpa using List.all_eq_true.1 hall t hm)⟩)
    (by kernel_rfl)
end Go.Proofs.YtpmgaeollikjhaaDoor
