/- The walks of the small functions of chapter 1 (places): what each hands back, as plain functions; conditions: none. -/
import Derived.Test.YtgjapdjidighlabGreatRows
import Derived.WalkKit
import Derived.WalkSpells
import Derived.Below
import Derived.Test.YtgjapdjidighlabGreatKit
namespace Go.Proofs.YtgjapdjidighlabGreat
open Go.RowKit
set_option linter.unusedVariables false
def inB (n lo hi : Int) : Bool := decide (lo ≤ n ∧ n ≤ hi)
def okB (c d : Int) : Bool := inB c 2 4 && inB d 2 8
theorem in_spec (n lo hi : Int) (w : World) :
    Calls Tryz.prog 32 #[.int .i64 n, .int .i64 lo, .int .i64 hi] w fun e w' => e = .returned (.bool (inB n lo hi)) ∧ w' = w := by
  go_enter Tryz.func32, Tryz.ntmps32
  go_wp2
  all_goals (go_ret; exact ⟨by simp [inB, *] <;> omega, rfl⟩)
theorem in_impl (n lo hi : Int) (w : World) :
    Calls Tryz.prog 44 #[.int .i64 n, .int .i64 lo, .int .i64 hi] w fun e w' => e = .returned (.bool (inB n lo hi)) ∧ w' = w := by
  go_enter Tryz.func44, Tryz.ntmps44
  go_wp2
  all_goals (go_ret; exact ⟨by simp [inB, *] <;> omega, rfl⟩)
theorem ok_spec (c d : Int) (w : World) :
    Calls Tryz.prog 30 #[.agg #[.int .i64 c, .int .i64 d]] w fun e w' => e = .returned (.bool (okB c d)) ∧ Below w.heap.size w w' := by
  cases h : inB c 2 4
  all_goals
    go_enter Tryz.func30, Tryz.ntmps30
    go_wp2_with (go_at_call 32; refine (in_spec _ _ _ _).mono ?_; rintro e w' ⟨rfl, rfl⟩)
    go_ret
    exact ⟨by simp [okB, h], (Below.refl _ _).alloc (by simp) _⟩
theorem ok_impl (c d : Int) (w : World) :
    Calls Tryz.prog 40 #[.agg #[.int .i64 c, .int .i64 d]] w fun e w' => e = .returned (.bool (okB c d)) ∧ Below w.heap.size w w' := by
  cases h : inB c 2 4
  all_goals
    go_enter Tryz.func40, Tryz.ntmps40
    go_wp2_with (go_at_call 44; refine (in_impl _ _ _ _).mono ?_; rintro e w' ⟨rfl, rfl⟩)
    go_ret
    exact ⟨by simp [okB, h], (Below.refl _ _).alloc (by simp) _⟩
end Go.Proofs.YtgjapdjidighlabGreat
