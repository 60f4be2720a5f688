/- For every map, store, age, place and record the program's StoAppend answers as the model's StoAppend; it writes into no argument, and its answer owns its memory, behind another call too; conditions: none beyond the card's own: the library's variable errors.errorType is what the program's text lays. -/
import Derived.Test.YtngaboipleimcaaGreatDoorCards
import Derived.Test.YtngaboipleimcaaGreatDoorTie
import Derived.Test.YtngaboipleimcaaGreatDoorStoAppend
import Derived.SevenTiedAt
set_option linter.unusedVariables false
namespace Go.Proofs.YtngaboipleimcaaGreatDoor
open Go
theorem stoAppend_holds:Rows.FnExactStoAppendCardSaid :=
 Claim7.holds_tied_plain_at .later [] [.handle] true (true, "5ff09ff7715b9c6cdf559b2d0986a33d3c32250f4fb614a3b0a757ee0306b0d9") true
  FnExactStoAppendDone.over (fun _ h=>by cases h) (by kernel_rfl) (fun _ h=>by cases h) fnExactStoAppend_row_tie rfl ⟨rfl,rfl⟩ (by kernel_rfl) rfl
  (fun f fn hf hfn=>by
   obtain rfl:f=8:=Option.some.inj ((show Tryz.prog.funcNamed Tryz.f8.name=some 8 by kernel_rfl).symm.trans hf) |>.symm
   obtain rfl:fn=Tryz.f8:=(Option.some.inj (Tryz.func8.symm.trans hfn)).symm
   exact ⟨by kernel_rfl,fun j t ht=>by
    rw [Tryz.params8] at ht
    have hm:t ∈ [23,67,3,3,36]:=by simpa using Array.mem_of_getElem? ht
    have hall:([23,67,3,3,36].all fun u=>!Tryz.prog.wantsStandIn u)=true:=by kernel_rfl
    exact (show Tryz.prog.wantsStandIn t=false by simpa using List.all_eq_true.1 hall t hm)⟩)
  (by kernel_rfl)
