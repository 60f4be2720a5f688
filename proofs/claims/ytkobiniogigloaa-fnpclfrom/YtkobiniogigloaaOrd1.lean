/- The walks of OrdOk's callees: which deed an order is, whether it fits, and the order of a deed; conditions: none. -/
import Derived.Test.YtkobiniogigloaaWalks1
namespace Go.Proofs.Ytkobiniogigloaa
open Go.RowKit
set_option linter.unusedVariables false

theorem amount_impl (n : Int) (w : World) :
    Calls Try.prog 53 #[.int .i64 n] w fun e w' => e = .returned (.bool (inB n 1 9)) ∧ w' = w := by
  go_enter Try.func53, Try.ntmps53
  go_wp2_with (go_at_call 15; refine (in_impl _ _ _ _).mono ?_; rintro e w' ⟨rfl, rfl⟩)
  go_ret
  exact ⟨rfl, rfl⟩

end Go.Proofs.Ytkobiniogigloaa
