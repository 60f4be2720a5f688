/- For every map, hold, store and record the program's HldWrite answers as the model's HldWrite; it writes into no argument, and its answer owns its memory, behind another call too; conditions: none beyond the card's own: the library's variable errors.errorType is what the program's text lays. -/
import Derived.Test.YtngaboipleimcabGreatDoorCards
import Derived.Test.YtngaboipleimcabGreatDoorTie
import Derived.Test.YtngaboipleimcabGreatDoorHldWrite
import Derived.SevenTiedAt
set_option linter.unusedVariables false
namespace Go.Proofs.YtngaboipleimcabGreatDoor
open Go
theorem hldWrite_holds:Rows.FnExactHldWriteCardSaid :=
 Claim7.holds_tied_plain_at .later [] [.handle] true (true, "61936120ae38002f15de1f87cd13a100edb2dc2008db85622de086110355e044") true
  FnExactHldWriteDone.over (fun _ h=>by cases h) (by kernel_rfl) (fun _ h=>by cases h) fnExactHldWrite_row_tie rfl ⟨rfl,rfl⟩ (by kernel_rfl) rfl
  (fun f fn hf hfn=>by
   obtain rfl:f=4:=Option.some.inj ((show Tryz.prog.funcNamed Tryz.f4.name=some 4 by kernel_rfl).symm.trans hf) |>.symm
   obtain rfl:fn=Tryz.f4:=(Option.some.inj (Tryz.func4.symm.trans hfn)).symm
   exact ⟨by kernel_rfl,fun j t ht=>by
    rw [Tryz.params4] at ht
    have hm:t ∈ [23,53,31,61]:=by simpa using Array.mem_of_getElem? ht
    have hall:([23,53,31,61].all fun u=>!Tryz.prog.wantsStandIn u)=true:=by kernel_rfl
    exact (show Tryz.prog.wantsStandIn t=false by simpa using List.all_eq_true.1 hall t hm)⟩)
  (by kernel_rfl)
