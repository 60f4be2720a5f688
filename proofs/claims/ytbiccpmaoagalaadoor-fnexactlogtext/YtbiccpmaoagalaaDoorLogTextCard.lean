/- For every record the program's LogText answers as the model's LogText, and the call leaves its argument as it was; conditions: none beyond the card's own: the library's tables are those of the program's text. -/
import Derived.Test.YtbiccpmaoagalaaDoorCards
import Derived.Test.YtbiccpmaoagalaaDoorTie
import Derived.Test.YtbiccpmaoagalaaDoorLogText
import Derived.SevenTiedAt
namespace Go.Proofs.YtbiccpmaoagalaaDoor
open Go
theorem logText_holds : Rows.FnExactLogTextCardSaid :=
  Claim7.holds_tied_plain_at .later [] [.data, .data, .data] true (true, "d3a9749bcd6e4f906350af01598c3210b0db8402b3bd34597afb2d6d351c0473") true
    ExactLogTextDone.over (fun _ h => by cases h) (by kernel_rfl) (fun _ h => by cases h) fnExactLogText_row_tie rfl ⟨rfl, rfl⟩ (by kernel_rfl) rfl
    (fun f fn hf hfn => by
      obtain rfl : f = 3 := Option.some.inj ((show Tryd.prog.funcNamed Tryd.f3.name = some 3 by kernel_rfl).symm.trans hf) |>.symm
      obtain rfl : fn = Tryd.f3 := (Option.some.inj (Tryd.func3.symm.trans hfn)).symm
      exact ⟨by kernel_rfl, fun j t ht => by
        rw [Tryd.params3] at ht
        have hm : t ∈ [29] := by simpa using Array.mem_of_getElem? ht
        have hall : ([29].all fun u => !Tryd.prog.wantsStandIn u) = true := by kernel_rfl
        exact (show Tryd.prog.wantsStandIn t = false by simpa using List.all_eq_true.1 hall t hm)⟩)
    (by kernel_rfl)
end Go.Proofs.YtbiccpmaoagalaaDoor
