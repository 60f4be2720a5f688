/- For every map, store and age the program's HldOpen answers as the model's HldOpen; it writes into no argument, and its answer owns its memory, behind another call too; conditions: none beyond the card's own: the library's variable errors.errorType is what the program's text lays. -/
import Derived.Test.YtngaboipleimcabGreatDoorCards
import Derived.Test.YtngaboipleimcabGreatDoorTie
import Derived.Test.YtngaboipleimcabGreatDoorHldOpen
import Derived.SevenTiedAt
set_option linter.unusedVariables false
namespace Go.Proofs.YtngaboipleimcabGreatDoor
open Go
theorem hldOpen_holds:Rows.FnExactHldOpenCardSaid :=
 Claim7.holds_tied_plain_at .later [] [.handle] true (true, "61936120ae38002f15de1f87cd13a100edb2dc2008db85622de086110355e044") true
  FnExactHldOpenDone.over (fun _ h=>by cases h) (by kernel_rfl) (fun _ h=>by cases h) fnExactHldOpen_row_tie rfl ⟨rfl,rfl⟩ (by kernel_rfl) rfl
  (fun f fn hf hfn=>by
   obtain rfl:f=3:=Option.some.inj ((show Tryz.prog.funcNamed Tryz.f3.name=some 3 by kernel_rfl).symm.trans hf) |>.symm
   obtain rfl:fn=Tryz.f3:=(Option.some.inj (Tryz.func3.symm.trans hfn)).symm
   exact ⟨by kernel_rfl,fun j t ht=>by
    rw [Tryz.params3] at ht
    have hm:t ∈ [23,31,3]:=by simpa using Array.mem_of_getElem? ht
    have hall:([23,31,3].all fun u=>!Tryz.prog.wantsStandIn u)=true:=by kernel_rfl
    exact (show Tryz.prog.wantsStandIn t=false by simpa using List.all_eq_true.1 hall t hm)⟩)
  (by kernel_rfl)
