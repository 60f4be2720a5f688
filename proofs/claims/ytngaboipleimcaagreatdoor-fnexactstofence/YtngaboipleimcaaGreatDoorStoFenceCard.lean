/- For every map, store and age the program's StoFence answers as the model's StoFence; it writes into no argument, and its answer owns its memory, behind another call too; conditions: none beyond the card's own: the library's variable errors.errorType is what the program's text lays. -/
import Derived.Test.YtngaboipleimcaaGreatDoorCards
import Derived.Test.YtngaboipleimcaaGreatDoorTie
import Derived.Test.YtngaboipleimcaaGreatDoorStoFence
import Derived.SevenTiedAt
set_option linter.unusedVariables false
namespace Go.Proofs.YtngaboipleimcaaGreatDoor
open Go
theorem stoFence_holds:Rows.FnExactStoFenceCardSaid :=
 Claim7.holds_tied_plain_at .later [] [.handle] true (true, "5ff09ff7715b9c6cdf559b2d0986a33d3c32250f4fb614a3b0a757ee0306b0d9") true
  FnExactStoFenceDone.over (fun _ h=>by cases h) (by kernel_rfl) (fun _ h=>by cases h) fnExactStoFence_row_tie rfl ⟨rfl,rfl⟩ (by kernel_rfl) rfl
  (fun f fn hf hfn=>by
   obtain rfl:f=7:=Option.some.inj ((show Tryz.prog.funcNamed Tryz.f7.name=some 7 by kernel_rfl).symm.trans hf) |>.symm
   obtain rfl:fn=Tryz.f7:=(Option.some.inj (Tryz.func7.symm.trans hfn)).symm
   exact ⟨by kernel_rfl,fun j t ht=>by
    rw [Tryz.params7] at ht
    have hm:t ∈ [23,67,3]:=by simpa using Array.mem_of_getElem? ht
    have hall:([23,67,3].all fun u=>!Tryz.prog.wantsStandIn u)=true:=by kernel_rfl
    exact (show Tryz.prog.wantsStandIn t=false by simpa using List.all_eq_true.1 hall t hm)⟩)
  (by kernel_rfl)
