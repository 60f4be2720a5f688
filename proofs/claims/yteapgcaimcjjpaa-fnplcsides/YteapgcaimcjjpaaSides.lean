/- The walk of the law FnPlcSides: it answers true; conditions: the bytes that came in are a row of bytes. -/
import Derived.Test.YteapgcaimcjjpaaDraw3
namespace Go.Proofs.Yteapgcaimcjjpaa
open Go.RowKit
set_option linter.unusedVariables false

theorem side_back {c d k s : Int} (h : ¬ sideF c d k s = -1) : sideF c d (sideF c d k s) (1 - s) = k := by
  have hh := sideF_in h
  have hb := hasB_bounds hh.1
  have ho : okB c d = true := by have := hh.1; simp only [hasB, Bool.and_eq_true] at this; exact this.1
  have hs : s = 0 ∨ s = 1 := by
    have := hh.2
    unfold stepF at this
    split at this
    · left; assumption
    · split at this
      · right; assumption
      · exact absurd rfl this
  rcases hs with rfl | rfl
  · have e := side_left hh.1
    by_cases g : 0 < k
    · rw [if_pos g] at e
      rw [e, show (1 : Int) - 0 = 1 from rfl, side_right ((hasB_true ho).2 (by omega)), if_pos (by omega)]; omega
    · rw [if_neg g] at e; exact absurd e h
  · have e := side_right hh.1
    by_cases g : k < c - 1
    · rw [if_pos g] at e
      rw [e, show (1 : Int) - 1 = 0 from rfl, side_left ((hasB_true ho).2 (by omega)), if_pos (by omega)]; omega
    · rw [if_neg g] at e; exact absurd e h

def cnt (d x : Int) : Int := if x ≤ 0 then 0 else if x ≤ d then x else d
theorem cnt_bd {d x : Int} (h : 2 ≤ d) : 0 ≤ cnt d x ∧ cnt d x ≤ d := by
  unfold cnt; split
  · omega
  · split <;> omega
theorem cnt_hit {c d x : Int} (ho : okB c d = true) (h0 : cellF c d x = 0) : cnt d (x + 1) = cnt d x + 1 := by
  have hb := okB_bounds ho
  obtain ⟨_, a0, a1, ev⟩ := cellF_val (c := c) (d := d) (a := x) (by omega)
  rw [ev] at h0
  have hx : x < d := by
    rcases d_cases ho with rfl | rfl | rfl | rfl | rfl | rfl | rfl <;> omega
  unfold cnt
  rw [if_neg (by omega), if_pos (by omega)]
  split
  · omega
  · rw [if_pos (by omega)]
theorem cnt_miss {c d x : Int} (ho : okB c d = true) (h1 : -1 ≤ x) (h2 : x ≤ c * d) (h0 : ¬ cellF c d x = 0) : cnt d (x + 1) = cnt d x := by
  have hb := okB_bounds ho
  have hx : x < 0 ∨ d ≤ x := by
    by_cases g : x < 0
    · exact .inl g
    · by_cases g2 : d ≤ x
      · exact .inr g2
      · exfalso
        have hm : d ≤ c * d - 1 := by
          rcases d_cases ho with rfl | rfl | rfl | rfl | rfl | rfl | rfl <;> omega
        apply h0
        rw [cellF_eq ho (by omega) (by omega)]
        exact Int.ediv_eq_zero_of_lt (by omega) (by omega)
  unfold cnt
  rcases hx with hx | hx
  · rw [if_pos (by omega), if_pos (by omega)]
  · rw [if_neg (by omega), if_neg (by omega), if_neg (by omega)]
    split <;> omega
theorem cnt_end {c d : Int} (ho : okB c d = true) : cnt d (c * d + 1) = d := by
  have hb := okB_bounds ho
  have hm : d ≤ c * d := by
    rcases d_cases ho with rfl | rfl | rfl | rfl | rfl | rfl | rfl <;> omega
  unfold cnt
  rw [if_neg (by omega), if_neg (by omega)]

theorem ma_ok (w : World) : Calls Try.prog 10 #[] w fun e w' => e = .returned (.bool true) ∧ Below w.heap.size w w' := by
  go_enter Try.func10, Try.ntmps10
  go_wp2_with fail
  refine (ok_impl _ _ _).mono ?_
  rintro e w1 ⟨rfl, hb1⟩
  go_wp2
  go_ret
  exact ⟨by rw [show okB 2 2 = true by decide]; rfl, by repeat (first | exact Below.refl _ _ | refine bthen ?_ (by assumption) | apply Below.drew | refine Below.alloc ?_ (by simp) _)⟩

theorem keepS {W w1 w2 : World} {m : Nat} (h : (∀ b o, b < m → w1.cell? ⟨b, o, none⟩ = W.cell? ⟨b, o, none⟩) ∧ m ≤ w1.heap.size) (hb : Below w1.heap.size w1 w2) :
    (∀ b o, b < m → w2.cell? ⟨b, o, none⟩ = W.cell? ⟨b, o, none⟩) ∧ m ≤ w2.heap.size :=
  ⟨fun b o hlt => (hb.cell (p := ⟨b, o, none⟩) (Nat.lt_of_lt_of_le hlt h.2)).trans (h.1 b o hlt), Nat.le_trans h.2 hb.size⟩
end Go.Proofs.Yteapgcaimcjjpaa
