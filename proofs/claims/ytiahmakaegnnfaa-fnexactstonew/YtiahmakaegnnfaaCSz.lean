/- The sizes of lists and of cells, as the laws ask for them; conditions: the lists lie in memory. -/
import Derived.Test.YtiahmakaegnnfaaCell0
import Derived.Test.YtiahmakaegnnfaaWalks4
import Derived.LoopTactic
namespace Go.Proofs.Ytiahmakaegnnfaa
open Go.RowKit Go.Deep
set_option linter.unusedVariables false

theorem szWalkers (a : Option Addr) (n cap : Nat) (left : Int) (h0 : 0 ≤ left) (h1 : left ≤ 1048576) (hn : (n : Int) ≤ 9223372036854775807) (w : World) :
    Calls Try.prog 10 #[.slice a n cap, .int .i64 left] w fun e w' => e = .returned (.int .i64 (if (n : Int) ≤ left then left - n else -1)) ∧ Below w.heap.size w w' := by
  by_cases h : (n : Int) ≤ left
  · go_enter Try.func10, Try.ntmps10
    go_wp2
    all_goals (go_ret; exact ⟨by simp <;> omega, Below.refl _ _⟩)
  · go_enter Try.func10, Try.ntmps10
    go_wp2
    all_goals (go_ret; exact ⟨by simp <;> omega, Below.refl _ _⟩)

end Go.Proofs.Ytiahmakaegnnfaa
