/- The walk of the law FnExactCllOk: it answers true; conditions: the cell lies in memory. -/
import Derived.Test.YtjmjffhommlbnaaGreatCOk5
import Derived.Test.YtjmjffhommlbnaaGreatCEq
namespace Go.Proofs.YtjmjffhommlbnaaGreat
open Go.RowKit Go.Deep
set_option linter.unusedVariables false

theorem CV.short.more {V : CV} {m n : Nat} (h : V.short m) (hmn : m ≤ n) : V.short n :=
  ⟨Nat.le_trans h.1 hmn, Nat.le_trans h.2.1 hmn, fun k hk => Nat.le_trans (h.2.2.1 k hk) hmn, Nat.le_trans h.2.2.2.1 hmn, Nat.le_trans h.2.2.2.2 hmn⟩
end Go.Proofs.YtjmjffhommlbnaaGreat
