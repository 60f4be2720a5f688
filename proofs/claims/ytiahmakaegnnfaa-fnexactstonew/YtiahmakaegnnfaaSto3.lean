/- A new cell is ok just if it is one: plain facts of newV; conditions: none. -/
import Derived.Test.YtiahmakaegnnfaaSto2
namespace Go.Proofs.Ytiahmakaegnnfaa
open Go.RowKit Go.Deep
set_option linter.unusedVariables false

theorem allB_at {c d : Int} {Z : Nat → Nat → Int} {n k : Nat} (h : allB c d Z n = true) (hk : k < n) : goodB c d Z k = true := by
  have := allB_down n (show k + 1 ≤ n by omega) h
  simp only [allB, Bool.and_eq_true] at this
  exact this.2
theorem allB_of {c d : Int} {Z : Nat → Nat → Int} : ∀ n, (∀ k, k < n → goodB c d Z k = true) → allB c d Z n = true
  | 0, _ => rfl
  | n + 1, h => by simp only [allB, allB_of n (fun k hk => h k (by omega)), h n (by omega), Bool.and_self]
theorem allB_lt {c d : Int} {Z : Nat → Nat → Int} {n i : Nat} (h : allB c d Z n = true) : ∀ j, i < j → j < n → Z i 0 < Z j 0
  | 0, h1, _ => absurd h1 (by omega)
  | j + 1, h1, h2 => by
    have g := allB_at h h2
    simp only [goodB, Bool.and_eq_true, Bool.or_eq_true, beq_iff_eq, decide_eq_true_eq, Nat.add_sub_cancel] at g
    have g2 : Z j 0 < Z (j + 1) 0 := by rcases g.2 with e | e
                                        · exact absurd e (by omega)
                                        · exact e
    by_cases e : i = j
    · subst e; exact g2
    · have := allB_lt (i := i) h j (by omega) (by omega)
      omega
theorem inL_mem {c d cell : Int} {Z : Nat → Nat → Int} {n k : Nat} (h : k < (inL c d cell Z n).length) : (inL c d cell Z n)[k]! < n ∧ cellF c d (Z (inL c d cell Z n)[k]! 1) = cell := by
  rw [getElem!_pos (inL c d cell Z n) k h]
  have := List.getElem_mem h
  simp only [inL, List.mem_filter, List.mem_range, beq_iff_eq] at this
  exact this
theorem inL_lt {c d cell : Int} {Z : Nat → Nat → Int} {n i j : Nat} (h : j < (inL c d cell Z n).length) (hij : i < j) : (inL c d cell Z n)[i]! < (inL c d cell Z n)[j]! := by
  rw [getElem!_pos (inL c d cell Z n) j h, getElem!_pos (inL c d cell Z n) i (by omega)]
  have hp : (inL c d cell Z n).Pairwise (· < ·) := List.Pairwise.filter _ List.pairwise_lt_range
  exact List.pairwise_iff_getElem.1 hp i j (by omega) h hij
theorem allB_inL {c d cell : Int} {Z : Nat → Nat → Int} {n : Nat} (h : allB c d Z n = true) : allB c d (fun k j => Z (inL c d cell Z n)[k]! j) (inL c d cell Z n).length = true := by
  refine allB_of _ (fun k hk => ?_)
  have m := inL_mem hk
  have g := allB_at h m.1
  simp only [goodB, Bool.and_eq_true] at g
  simp only [goodB, Bool.and_eq_true, Bool.or_eq_true, beq_iff_eq, decide_eq_true_eq]
  refine ⟨g.1, ?_⟩
  by_cases e : k = 0
  · exact .inl e
  · exact .inr (allB_lt h _ (inL_lt hk (by omega)) m.1)
theorem allK_of {p : Nat → Bool} : ∀ n, (∀ k, k < n → p k = true) → allK p n = true
  | 0, _ => rfl
  | n + 1, h => by simp only [allK, allK_of n (fun k hk => h k (by omega)), h n (by omega), Bool.and_self]
theorem sideK_new {c d VC s : Int} {Z : Nat → Nat → Int} (h : okB c d = true) : sideK c d VC s 0 Z 0 0 = true := by
  have e : P8.listP c d 0 0 Z = true := by simp [P8.listP, h, inB, P8.allP]
  have e2 : inB 0 0 5000 = true := rfl
  unfold sideK
  rw [e, e2]
  by_cases q : sideF c d VC s = -1
  · rw [if_pos q]; rfl
  · rw [if_neg q]; rfl
/-- Whether CllOk says yes to a new cell. -/
theorem cllB_new (c d cell : Int) (Z : Nat → Nat → Int) (n : Nat) : cllB c d (newV c d cell Z n) = (hasB c d cell && allB c d Z n) := by
  unfold newV
  by_cases h : (hasB c d cell && allB c d Z n) = true
  · rw [if_pos h, h]
    simp only [Bool.and_eq_true] at h
    have ho : okB c d = true := by have := h.1; simp only [hasB, Bool.and_eq_true] at this; exact this.1
    have hk : allK (fun k => !(cellF c d (Z (inL c d cell Z n)[k]! 1) != cell)) (inL c d cell Z n).length = true := allK_of _ (fun k hk => by rw [(inL_mem hk).2, bne_self_eq_false]; rfl)
    simp only [cllB]
    rw [h.1, allB_inL h.2, hk, sideK_new ho, sideK_new ho]
    rfl
  · rw [if_neg h]
    have h' : (hasB c d cell && allB c d Z n) = false := by simpa using h
    rw [h']
    simp [cllB]

end Go.Proofs.Ytiahmakaegnnfaa
