/- An open book takes an order; conditions: those typed. -/
import Derived.Test.YtgjapdjidighlabGreatGO2
import Derived.Test.YtgjapdjidighlabGreatOrd2
namespace Go.Proofs.YtgjapdjidighlabGreat
open Go.RowKit Go.Deep
set_option linter.unusedVariables false
theorem bk_drew {W : World} {b : Nat} {l : List Value} (h : Bk W b l) : Bk W.drew b l := h
theorem grown_drew {a W : World} {r : Option Nat} (h : a.grownBy W r) : a.grownBy W.drew r := ⟨h.os, h.tape, h.output, h.size, h.block⟩
theorem Op.change {lo mb n i : Nat} {w w' : World} {Kf : Nat → Int} {Bs : Nat → Nat} {Z Z' : Nat → Nat → Int} (h : Op lo w mb n Kf Bs Z) (hi : i < n) (hg : w.grownBy w' (some (Bs i))) (h1 : Bk w' (Bs i) (P10.rowK Z' i)) (h2 : ∀ k, ¬ k = i → P10.rowK Z' k = P10.rowK Z k) : Op lo w' mb n Kf Bs Z' := by
  obtain ⟨q1, q2, q3, q4⟩ := h
  refine ⟨q1, q2.kept hg (fun e => (q2.not (q3 i hi).2 (by simp [P10.rowK])) (Option.some.inj e).symm), fun k hk => ?_, q4⟩
  by_cases e : k = i
  · subst e; exact ⟨(q3 k hk).1, h1⟩
  · rw [h2 k e]
    refine ⟨(q3 k hk).1, (q3 k hk).2.sm hg.size (sm_grown hg (q3 k hk).2.1 (fun e2 => ?_))⟩
    have e3 := Option.some.inj e2
    rcases Nat.lt_or_gt_of_ne e with h | h
    · have := q4 k i h hi; omega
    · have := q4 i k h hk; omega
end Go.Proofs.YtgjapdjidighlabGreat
