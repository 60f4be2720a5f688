/- Parcels that are numbered one behind the other, and what is left of them from a number on; no Go text in sight; conditions: none beyond those typed. -/
import Derived.Test.YtjmjffhommlbnaaGreatCCopyS
namespace Go.Proofs.YtjmjffhommlbnaaGreat
open Go.RowKit Go.Deep
set_option linter.unusedVariables false

theorem allP_at {c d next : Int} {m : Nat} {Z : Nat → Nat → Int} {n : Nat} (h : P8.allP c d next m Z n = true) : ∀ k, k < n → Z k 0 = next - m + k := fun k hk => by
  cases e : P8.goodP c d next m Z k
  · rw [P8.allP_stop hk e] at h
    cases h
  · simp [P8.goodP] at e
    exact e.2
theorem listP_at {c d next : Int} {n : Nat} {Z : Nat → Nat → Int} (h : P8.listP c d next n Z = true) : (n : Int) ≤ next ∧ ∀ k, k < n → Z k 0 = next - n + k := by
  simp only [P8.listP, Bool.and_eq_true, decide_eq_true_eq] at h
  exact ⟨h.2.2.1, allP_at h.2.2.2⟩
theorem rest_all {Z : Nat → Nat → Int} {n : Nat} {z next : Int} (h : ∀ k, k < n → Z k 0 = next - n + k) : (P8.rest Z n z).length = n ↔ n = 0 ∨ z ≤ next - n := by
  have e : (P8.rest Z n z).length = n ↔ ∀ k ∈ List.range n, decide (z ≤ Z k 0) = true := by
    have := List.length_filter_eq_length_iff (p := fun k => decide (z ≤ Z k 0)) (l := List.range n)
    rw [List.length_range] at this
    exact this
  rw [e]
  constructor
  · intro q
    by_cases h0 : n = 0
    · exact .inl h0
    · have := q 0 (List.mem_range.2 (by omega))
      rw [h 0 (by omega)] at this
      simp at this
      exact .inr this
  · intro q k hk
    have hk := List.mem_range.1 hk
    rw [h k hk]
    rcases q with q | q
    · omega
    · simp; omega
/-- The two ways to say that there is nothing to throw away are one. -/
theorem ack_one {Z : Nat → Nat → Int} {n : Nat} {z next : Int} (h : ∀ k, k < n → Z k 0 = next - n + k) (hz : ¬ z > next) : ((P8.rest Z n z).length = n) ↔ z ≤ next - n := by
  rw [rest_all h]
  constructor
  · rintro (q | q)
    · subst q; simp; omega
    · exact q
  · exact .inr
/-- A cell of which a side's parcels are those from number z on. -/
def CV.ack (V : CV) (s : Nat) (z : Int) : CV :=
  { V with N := fun k => if k = s then (P8.rest (V.O s) (V.N s) z).length else V.N k, O := fun k => if k = s then fun i j => V.O s (P8.rest (V.O s) (V.N s) z)[i]! j else V.O k }
theorem CV.ack_short {V : CV} {m s : Nat} {z : Int} (h : V.short m) (hs : s < V.nO) : (V.ack s z).short m := by
  refine ⟨h.1, h.2.1, fun k hk => ?_, h.2.2.2.1, h.2.2.2.2⟩
  show (if k = s then (P8.rest (V.O s) (V.N s) z).length else V.N k) ≤ m
  by_cases e : k = s
  · rw [if_pos e]; exact Nat.le_trans (P8.rest_len _ _ _) (h.2.2.1 s hs)
  · rw [if_neg e]; exact h.2.2.1 k hk
end Go.Proofs.YtjmjffhommlbnaaGreat
