/- The sizes of lists and of cells, as the laws ask for them; conditions: the lists lie in memory. -/
import Derived.Test.YthbkjfkkdaheoaaGreatDoorCell0
import Derived.Test.YthbkjfkkdaheoaaGreatDoorWalks4
import Derived.LoopTactic
namespace Go.Proofs.YthbkjfkkdaheoaaGreatDoor
open Go.RowKit Go.Deep
set_option linter.unusedVariables false
theorem szInts (a : Option Addr) (n cap : Nat) (left : Int) (h0 : 0 ≤ left) (h1 : left ≤ 1048576) (hn : (n : Int) ≤ 9223372036854775807) (w : World) :
    Calls Tryz.prog 40 #[.slice a n cap, .int .i64 left] w fun e w' => e = .returned (.int .i64 (if (n : Int) ≤ left then left - n else -1)) ∧ Below w.heap.size w w' := by
  by_cases h : (n : Int) ≤ left
  · go_enter Tryz.func40, Tryz.ntmps40
    go_wp2
    all_goals (go_ret; exact ⟨by simp <;> omega, Below.refl _ _⟩)
  · go_enter Tryz.func40, Tryz.ntmps40
    go_wp2
    all_goals (go_ret; exact ⟨by simp <;> omega, Below.refl _ _⟩)
theorem szWalkers (a : Option Addr) (n cap : Nat) (left : Int) (h0 : 0 ≤ left) (h1 : left ≤ 1048576) (hn : (n : Int) ≤ 9223372036854775807) (w : World) :
    Calls Tryz.prog 38 #[.slice a n cap, .int .i64 left] w fun e w' => e = .returned (.int .i64 (if (n : Int) ≤ left then left - n else -1)) ∧ Below w.heap.size w w' := by
  by_cases h : (n : Int) ≤ left
  · go_enter Tryz.func38, Tryz.ntmps38
    go_wp2
    all_goals (go_ret; exact ⟨by simp <;> omega, Below.refl _ _⟩)
  · go_enter Tryz.func38, Tryz.ntmps38
    go_wp2
    all_goals (go_ret; exact ⟨by simp <;> omega, Below.refl _ _⟩)
theorem szParcels (a : Option Addr) (n cap : Nat) (left : Int) (h0 : 0 ≤ left) (h1 : left ≤ 1048576) (hn : (n : Int) ≤ 9223372036854775807) (w : World) :
    Calls Tryz.prog 75 #[.slice a n cap, .int .i64 left] w fun e w' => e = .returned (.int .i64 (if (n : Int) ≤ left then left - n else -1)) ∧ Below w.heap.size w w' := by
  by_cases h : (n : Int) ≤ left
  · go_enter Tryz.func75, Tryz.ntmps75
    go_wp2
    all_goals (go_ret; exact ⟨by simp <;> omega, Below.refl _ _⟩)
  · go_enter Tryz.func75, Tryz.ntmps75
    go_wp2
    all_goals (go_ret; exact ⟨by simp <;> omega, Below.refl _ _⟩)
end Go.Proofs.YthbkjfkkdaheoaaGreatDoor
