/- The walks of PlcEdge and what it calls; conditions: none. -/
import Derived.Test.YtgjapdjidighlaaWalksS
import Derived.Test.YtgjapdjidighlaaWalks4
import Derived.Deep.RegionHeld3
import Derived.Deep.QuietTactic
import Derived.BigQuiet
namespace Go.Proofs.Ytgjapdjidighlaa
open Go.RowKit
set_option linter.unusedVariables false

def edgeB (c d a s : Int) : Bool := decide (¬ sideF c d (cellF c d a) s = -1) && (cellF c d (a + stepF s) == sideF c d (cellF c d a) s)

theorem cellF_in {c d a : Int} (h : ¬ cellF c d a = -1) : 0 ≤ a ∧ a ≤ 31 ∧ okB c d = true := by
  unfold cellF at h
  split at h
  · rename_i g
    have := mul_bounds g.1
    have := inB_true.1 g.2
    exact ⟨by omega, by omega, g.1⟩
  · exact absurd rfl h

theorem sideF_in {c d k s : Int} (h : ¬ sideF c d k s = -1) : hasB c d k = true ∧ ¬ stepF s = 0 := by
  unfold sideF at h
  split at h
  · rename_i g; exact ⟨g.1, g.2.1⟩
  · exact absurd rfl h

theorem edge_in {c d a s : Int} (h : ¬ sideF c d (cellF c d a) s = -1) : 0 ≤ a ∧ a ≤ 31 := by
  have h1 := (sideF_in h).1
  have h2 : ¬ cellF c d a = -1 := by
    intro e; rw [e] at h1
    have := hasB_bounds h1; omega
  have := cellF_in h2
  exact ⟨this.1, this.2.1⟩

theorem cellF_eq {c d a : Int} (h : okB c d = true) (h0 : 0 ≤ a) (h1 : a ≤ c * d - 1) : cellF c d a = a / d := by
  unfold cellF; rw [if_pos ⟨h, inB_true.2 ⟨h0, h1⟩⟩]

theorem cellF_val {c d a : Int} (h : ¬ cellF c d a = -1) : okB c d = true ∧ 0 ≤ a ∧ a ≤ c * d - 1 ∧ cellF c d a = a / d := by
  unfold cellF at h ⊢
  split at h
  · rename_i g
    rw [if_pos g]
    have := inB_true.1 g.2
    exact ⟨g.1, this.1, this.2, rfl⟩
  · exact absurd rfl h

theorem d_cases {c d : Int} (h : okB c d = true) : d = 2 ∨ d = 3 ∨ d = 4 ∨ d = 5 ∨ d = 6 ∨ d = 7 ∨ d = 8 := by
  have := okB_bounds h; omega

theorem edge_left {c d a : Int} (h : ¬ sideF c d (cellF c d a) 0 = -1) : edgeB c d a 0 = (a == cellF c d a * d) ∧ 0 ≤ cellF c d a * d ∧ cellF c d a * d ≤ 31 := by
  have h1 := (sideF_in h).1
  have h2 : ¬ cellF c d a = -1 := by
    intro e; rw [e] at h1
    have := hasB_bounds h1; omega
  obtain ⟨ho, a0, a1, ev⟩ := cellF_val h2
  have hs := side_left h1
  have hb := hasB_bounds h1
  have hc := okB_bounds ho
  have hk : 0 < cellF c d a := by
    by_cases g : 0 < cellF c d a
    · exact g
    · rw [if_neg g] at hs; exact absurd hs h
  rw [if_pos hk] at hs
  have hm := mul_bounds ho
  unfold edgeB
  rw [hs, show stepF 0 = -1 from rfl]
  have e1 : (decide (¬ cellF c d a - 1 = -1)) = true := by simp; omega
  rw [e1, Bool.true_and]
  have a2 : 1 ≤ a := by
    rcases d_cases ho with rfl | rfl | rfl | rfl | rfl | rfl | rfl <;> omega
  rw [cellF_eq ho (by omega) (by omega), ev]
  refine ⟨?_, ?_, ?_⟩
  · rw [Bool.eq_iff_iff]; simp only [beq_iff_eq]
    rw [ev] at hk
    rcases d_cases ho with rfl | rfl | rfl | rfl | rfl | rfl | rfl <;> omega
  · rcases d_cases ho with rfl | rfl | rfl | rfl | rfl | rfl | rfl <;> omega
  · rcases d_cases ho with rfl | rfl | rfl | rfl | rfl | rfl | rfl <;> omega

theorem edge_right {c d a : Int} (h : ¬ sideF c d (cellF c d a) 1 = -1) : edgeB c d a 1 = (a == cellF c d a * d + d - 1) ∧ 0 ≤ cellF c d a * d ∧ cellF c d a * d ≤ 31 ∧ 2 ≤ d ∧ d ≤ 8 := by
  have h1 := (sideF_in h).1
  have h2 : ¬ cellF c d a = -1 := by
    intro e; rw [e] at h1
    have := hasB_bounds h1; omega
  obtain ⟨ho, a0, a1, ev⟩ := cellF_val h2
  have hs := side_right h1
  have hb := hasB_bounds h1
  have hc := okB_bounds ho
  have hk : cellF c d a < c - 1 := by
    by_cases g : cellF c d a < c - 1
    · exact g
    · rw [if_neg g] at hs; exact absurd hs h
  rw [if_pos hk] at hs
  have hm := mul_bounds ho
  unfold edgeB
  rw [hs, show stepF 1 = 1 from rfl]
  have e1 : (decide (¬ cellF c d a + 1 = -1)) = true := by simp; omega
  rw [e1, Bool.true_and]
  have a2 : a + 1 ≤ c * d - 1 := by
    rw [ev] at hk
    rcases d_cases ho with rfl | rfl | rfl | rfl | rfl | rfl | rfl <;> omega
  rw [cellF_eq ho (by omega) (by omega), ev]
  refine ⟨?_, ?_, ?_, by omega, by omega⟩
  · rw [Bool.eq_iff_iff]; simp only [beq_iff_eq]
    rcases d_cases ho with rfl | rfl | rfl | rfl | rfl | rfl | rfl <;> omega
  · rcases d_cases ho with rfl | rfl | rfl | rfl | rfl | rfl | rfl <;> omega
  · rcases d_cases ho with rfl | rfl | rfl | rfl | rfl | rfl | rfl <;> omega

theorem edge_none {c d a s : Int} (h : sideF c d (cellF c d a) s = -1) : edgeB c d a s = false := by simp [edgeB, h]

theorem edge_side {c d a s : Int} (h : ¬ sideF c d (cellF c d a) s = -1) : s = 0 ∨ s = 1 := by
  have := (sideF_in h).2
  unfold stepF at this
  split at this
  · left; assumption
  · split at this
    · right; assumption
    · exact absurd rfl this

end Go.Proofs.Ytgjapdjidighlaa
