/- The walks of OrdOk's callees: which deed an order is, whether it fits, and the order of a deed; conditions: none. -/
import Derived.Test.YtjmjffhommlbnaaGreatWalksD
namespace Go.Proofs.YtjmjffhommlbnaaGreat
open Go.RowKit
set_option linter.unusedVariables false

theorem amount_impl (n : Int) (w : World) :
    Calls Tryz.prog 125 #[.int .i64 n] w fun e w' => e = .returned (.bool (inB n 1 9)) ∧ w' = w := by
  go_enter Tryz.func125, Tryz.ntmps125
  go_wp2_with (go_at_call 52; refine (in_impl _ _ _ _).mono ?_; rintro e w' ⟨rfl, rfl⟩)
  go_ret
  exact ⟨rfl, rfl⟩

end Go.Proofs.YtjmjffhommlbnaaGreat
