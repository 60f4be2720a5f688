/- The walks of CllOk's parts, the program's: the walkers; conditions: the walkers lie in memory. -/
import Derived.Test.YtiahmakaegnnfaaCTo
import Derived.Test.YtiahmakaegnnfaaListOk2
import Derived.Test.YtiahmakaegnnfaaPList2
import Derived.Test.YtiahmakaegnnfaaWalksS
namespace Go.Proofs.Ytiahmakaegnnfaa
open Go.RowKit Go.Deep
set_option linter.unusedVariables false

/-- All of the first k. -/
def allK (p : Nat → Bool) : Nat → Bool
  | 0 => true
  | k + 1 => allK p k && p k
theorem allK_step {p : Nat → Bool} {k : Nat} (h : allK p k = true) (g : p k = true) : allK p (k + 1) = true := by simp [allK, h, g]
theorem allK_down {p : Nat → Bool} {k : Nat} : ∀ n, k ≤ n → allK p n = true → allK p k = true
  | 0, h, e => by have : k = 0 := by omega
                  subst this; exact e
  | n + 1, h, e => by
    by_cases hk : k = n + 1
    · subst hk; exact e
    · simp only [allK, Bool.and_eq_true] at e
      exact allK_down n (by omega) e.1
theorem allK_stop {p : Nat → Bool} {k n : Nat} (hk : k < n) (g : p k = false) : allK p n = false := by
  match e : allK p n with
  | false => rfl
  | true =>
    have := allK_down n (show k + 1 ≤ n by omega) e
    simp [allK, g] at this