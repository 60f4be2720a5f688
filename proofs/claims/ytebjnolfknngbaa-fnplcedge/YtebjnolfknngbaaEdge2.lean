/- Plain facts: a place is an edge just where one step leads into another cell, which is then the one on that side; and the walk of maOk; conditions: none. -/
import Derived.Test.YtebjnolfknngbaaWalks3
namespace Go.Proofs.Ytebjnolfknngbaa
open Go.RowKit
set_option linter.unusedVariables false

theorem step_same {s : Int} (h : s = 0 ∨ s = 1) (k : Int) : k + stepF s = k + 2 * s - 1 := by
  rcases h with rfl | rfl
  · show k + -1 = _; omega
  · show k + 1 = _; omega

theorem edge_else {c d k s : Int} (h0 : ¬ s = 0) (h1 : ¬ s = 1) : edgeB c d k s = false := edge_none (side_else h0 h1)

theorem edge_noCell {c d k s : Int} (h : cellF c d k = -1) : edgeB c d k s = false := by
  apply edge_none
  rw [h]
  by_cases g : sideF c d (-1) s = -1
  · exact g
  · have := hasB_bounds (sideF_in g).1; omega

theorem edge_noNext {c d k s : Int} (h : cellF c d (k + stepF s) = -1) : edgeB c d k s = false := by
  unfold edgeB
  rw [h]
  by_cases g : sideF c d (cellF c d k) s = -1
  · simp [g]
  · have : ((-1 : Int) == sideF c d (cellF c d k) s) = false := by simpa using fun e => g e.symm
    rw [this, Bool.and_false]

theorem side_far {c d k s : Int} (h : ¬ sideF c d k s = -1) : ¬ sideF c d k s = k := by
  unfold sideF at h ⊢
  split
  · rename_i g; have := g.2.1; omega
  · rename_i g; rw [if_neg g] at h; exact absurd rfl h

theorem edge_same {c d k s : Int} (h : cellF c d (k + stepF s) = cellF c d k) : edgeB c d k s = false := by
  unfold edgeB
  rw [h]
  by_cases g : sideF c d (cellF c d k) s = -1
  · simp [g]
  · have : (cellF c d k == sideF c d (cellF c d k) s) = false := by simpa using fun e => side_far g e.symm
    rw [this, Bool.and_false]

theorem cell_in {c d a : Int} (h : ¬ cellF c d a = -1) : hasB c d (cellF c d a) = true ∧ 0 ≤ a ∧ a ≤ c * d - 1 ∧ cellF c d a = a / d ∧ okB c d = true := by
  obtain ⟨ho, a0, a1, ev⟩ := cellF_val h
  refine ⟨(hasB_true ho).2 ?_, a0, a1, ev, ho⟩
  rw [ev]
  rcases d_cases ho with rfl | rfl | rfl | rfl | rfl | rfl | rfl <;> omega

theorem edge_yes {c d k s : Int} (hs : s = 0 ∨ s = 1) (h0 : ¬ cellF c d k = -1) (h1 : ¬ cellF c d (k + stepF s) = -1) (h2 : ¬ cellF c d (k + stepF s) = cellF c d k) :
    edgeB c d k s = true ∧ sideF c d (cellF c d k) s = cellF c d (k + stepF s) := by
  obtain ⟨hk, k0, k1, ke, ho⟩ := cell_in h0
  obtain ⟨hn, n0, n1, ne, _⟩ := cell_in h1
  have hb := hasB_bounds hk
  have hb' := hasB_bounds hn
  have e : sideF c d (cellF c d k) s = cellF c d (k + stepF s) := by
    rcases hs with rfl | rfl
    · rw [show stepF 0 = -1 from rfl] at *
      rw [side_left hk]
      rw [ke, ne] at h2 ⊢
      rw [ke] at hb
      rw [ne] at hb'
      split <;> rcases d_cases ho with rfl | rfl | rfl | rfl | rfl | rfl | rfl <;> omega
    · rw [show stepF 1 = 1 from rfl] at *
      rw [side_right hk]
      rw [ke, ne] at h2 ⊢
      rw [ke] at hb
      rw [ne] at hb'
      split <;> rcases d_cases ho with rfl | rfl | rfl | rfl | rfl | rfl | rfl <;> omega
  refine ⟨?_, e⟩
  unfold edgeB
  rw [e]
  simp [h1]

theorem maOk_any (w : World) : Calls Try.prog 9 #[] w fun e w' => e = .returned (.bool true) ∧ Below w.heap.size w w' := by
  go_enter Try.func9, Try.ntmps9
  go_wp2_with fail
  refine (ok_impl _ _ _).mono ?_
  rintro e w1 ⟨rfl, hb1⟩
  go_wp2
  go_ret
  exact ⟨rfl, hb1⟩

theorem keepS {W w1 w2 : World} {m : Nat} (h : (∀ b o, b < m → w1.cell? ⟨b, o, none⟩ = W.cell? ⟨b, o, none⟩) ∧ m ≤ w1.heap.size) (hb : Below w1.heap.size w1 w2) :
    (∀ b o, b < m → w2.cell? ⟨b, o, none⟩ = W.cell? ⟨b, o, none⟩) ∧ m ≤ w2.heap.size :=
  ⟨fun b o hlt => (hb.cell (p := ⟨b, o, none⟩) (Nat.lt_of_lt_of_le hlt h.2)).trans (h.1 b o hlt), Nat.le_trans h.2 hb.size⟩
end Go.Proofs.Ytebjnolfknngbaa
