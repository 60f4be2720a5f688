/- The walk of the model's PlcOk; conditions: none. -/
import Derived.Test.YtpfemjenhnnfmaaDoorWalks1
namespace Go.Proofs.YtpfemjenhnnfmaaDoor
open Go.RowKit
set_option linter.unusedVariables false

theorem ok_spec (c d : Int) (w : World) :
    Calls Tryd.prog 37 #[.agg #[.int .i64 c, .int .i64 d]] w fun e w' => e = .returned (.bool (okB c d)) ∧ Below w.heap.size w w' := by
  cases h : inB c 2 4
  all_goals
    go_enter Tryd.func37, Tryd.ntmps37
    go_wp2_with (go_at_call 23; refine (in_spec _ _ _ _).mono ?_; rintro e w' ⟨rfl, rfl⟩)
    go_ret
    exact ⟨by simp [okB, h], (Below.refl _ _).alloc (by simp) _⟩
end Go.Proofs.YtpfemjenhnnfmaaDoor
