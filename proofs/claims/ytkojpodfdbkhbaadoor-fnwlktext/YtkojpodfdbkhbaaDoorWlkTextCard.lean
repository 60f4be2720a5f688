/- For every two codes the law FnWlkText answers true, and the codes read as they did; conditions: none beyond the card's own: the library's tables and sentinels are those of the program's text. -/
import Derived.Test.YtkojpodfdbkhbaaDoorCards
import Derived.Test.YtkojpodfdbkhbaaDoorTie
import Derived.Test.YtkojpodfdbkhbaaDoorWlkText
import Derived.SevenTiedAt
namespace Go.Proofs.YtkojpodfdbkhbaaDoor
open Go
theorem wlkText_holds : Rows.FnWlkTextCardSaid :=
  Claim7.holds_tied_plain_at .later [] [.data, .data, .data, .data, .sentinel, .sentinel, .pinned] true (true, "c186a4d16757be12898894502081256158bd82f7e83464c894292eb9b2680993") true
    WlkTextDone.over (fun _ h => by cases h) (by kernel_rfl) (fun _ h => by cases h) fnWlkText_row_tie rfl ⟨rfl, rfl⟩ (by kernel_rfl) rfl
    (fun f fn hf hfn => by
      obtain rfl : f = 3 := Option.some.inj ((show Tryd.prog.funcNamed Tryd.f3.name = some 3 by kernel_rfl).symm.trans hf) |>.symm
      obtain rfl : fn = Tryd.f3 := (Option.some.inj (Tryd.func3.symm.trans hfn)).symm
      exact ⟨by kernel_rfl, fun j t ht => by
        rw [Tryd.params3] at ht
        have hm : t ∈ [22] := by simpa using Array.mem_of_getElem? ht
        have hall : ([22].all fun u => !Tryd.prog.wantsStandIn u) = true := by kernel_rfl
        exact (show Tryd.prog.wantsStandIn t = false by simpa using List.all_eq_true.1 hall t hm)⟩)
    (by kernel_rfl)
end Go.Proofs.YtkojpodfdbkhbaaDoor
