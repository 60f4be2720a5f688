/- The walks of WlkListOk, the program's and the model's: both hand back the plain 'all are ok, and their numbers rise'; conditions: the list lies in memory as a row of structs of five integers. -/
import Derived.Test.YtoickljpjlhkoaaList
import Derived.Test.YtoickljpjlhkoaaWalksD
namespace Go.Proofs.Ytoickljpjlhkoaa
open Go.RowKit Go.Deep
set_option linter.unusedVariables false

def wkB (c d : Int) (Z : Nat → Nat → Int) (k : Nat) : Bool := wlkB c d (Z k 0) (Z k 1) (Z k 2) (Z k 3) (Z k 4)
def goodB (c d : Int) (Z : Nat → Nat → Int) (k : Nat) : Bool := wkB c d Z k && (k == 0 || decide (Z (k - 1) 0 < Z k 0))
def allB (c d : Int) (Z : Nat → Nat → Int) : Nat → Bool
  | 0 => true
  | k + 1 => allB c d Z k && goodB c d Z k

theorem allB_step {c d : Int} {Z : Nat → Nat → Int} {k : Nat} (h : allB c d Z k = true) (g : goodB c d Z k = true) : allB c d Z (k + 1) = true := by simp [allB, h, g]
theorem allB_down {c d : Int} {Z : Nat → Nat → Int} {k : Nat} : ∀ n, k ≤ n → allB c d Z n = true → allB c d Z k = true
  | 0, hk, h => by obtain rfl : k = 0 := by omega
                   exact h
  | n + 1, hk, h => by
    by_cases e : k = n + 1
    · subst e; exact h
    · simp only [allB, Bool.and_eq_true] at h
      exact allB_down n (by omega) h.1
theorem allB_stop {c d : Int} {Z : Nat → Nat → Int} {k n : Nat} (h : allB c d Z k = true) (hk : k < n) (g : goodB c d Z k = false) : allB c d Z n = false := by
  cases e : allB c d Z n with
  | false => rfl
  | true =>
    have := allB_down n (show k + 1 ≤ n by omega) e
    simp [allB, g] at this

end Go.Proofs.Ytoickljpjlhkoaa
