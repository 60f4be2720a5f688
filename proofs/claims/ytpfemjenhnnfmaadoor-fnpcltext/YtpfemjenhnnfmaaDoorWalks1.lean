/- The walks of the small functions of chapter 1 (places): what each hands back, as plain functions; conditions: none. -/
import Derived.Test.YtpfemjenhnnfmaaDoorRows
import Derived.WalkKit
import Derived.WalkSpells
import Derived.Below
import Derived.Test.YtpfemjenhnnfmaaDoorKit
namespace Go.Proofs.YtpfemjenhnnfmaaDoor
open Go.RowKit
set_option linter.unusedVariables false

def inB (n lo hi : Int) : Bool := decide (lo ≤ n ∧ n ≤ hi)
def okB (c d : Int) : Bool := inB c 2 4 && inB d 2 8

theorem in_spec (n lo hi : Int) (w : World) :
    Calls Tryd.prog 23 #[.int .i64 n, .int .i64 lo, .int .i64 hi] w fun e w' => e = .returned (.bool (inB n lo hi)) ∧ w' = w := by
  go_enter Tryd.func23, Tryd.ntmps23
  go_wp2
  all_goals (go_ret; exact ⟨by simp [inB, *] <;> omega, rfl⟩)

theorem in_impl (n lo hi : Int) (w : World) :
    Calls Tryd.prog 55 #[.int .i64 n, .int .i64 lo, .int .i64 hi] w fun e w' => e = .returned (.bool (inB n lo hi)) ∧ w' = w := by
  go_enter Tryd.func55, Tryd.ntmps55
  go_wp2
  all_goals (go_ret; exact ⟨by simp [inB, *] <;> omega, rfl⟩)

end Go.Proofs.YtpfemjenhnnfmaaDoor
