/- For every list of lines the program's DskHead answers as the model's DskHead, writes into no argument, and its answer owns its memory, behind another call too; conditions: none beyond the card's own: the library's tables, sentinels and the handle are those of the program's text. -/
import Derived.Test.YtlmoeacpkkkkcaaGreatDoorCards
import Derived.Test.YtlmoeacpkkkkcaaGreatDoorTie
import Derived.Test.YtlmoeacpkkkkcaaGreatDoorDskHead
import Derived.SevenTiedAt
namespace Go.Proofs.YtlmoeacpkkkkcaaGreatDoor
open Go
theorem dskHead_holds : Rows.FnExactDskHeadCardSaid :=
  Claim7.holds_tied_plain_at .later [] [.data, .data, .data, .data, .handle, .sentinel, .sentinel, .pinned] true (true, "a9d77cf5a3fcd039070c0aecc5912916fe80da8092e229355625686daab334a6") true
    ExactDskHeadDone.over (fun _ h => by cases h) (by kernel_rfl) (fun _ h => by cases h) fnExactDskHead_row_tie rfl ⟨rfl, rfl⟩ (by kernel_rfl) rfl
    (fun f fn hf hfn => by
      obtain rfl : f = 3 := Option.some.inj ((show Tryz.prog.funcNamed Tryz.f3.name = some 3 by kernel_rfl).symm.trans hf) |>.symm
      obtain rfl : fn = Tryz.f3 := (Option.some.inj (Tryz.func3.symm.trans hfn)).symm
      exact ⟨by kernel_rfl, fun j t ht => by
        rw [Tryz.params3] at ht
        have hm : t ∈ [22] := by simpa using Array.mem_of_getElem? ht
        have hall : ([22].all fun u => !Tryz.prog.wantsStandIn u) = true := by kernel_rfl
        exact (show Tryz.prog.wantsStandIn t = false by simpa using List.all_eq_true.1 hall t hm)⟩)
    (by kernel_rfl)
end Go.Proofs.YtlmoeacpkkkkcaaGreatDoor
