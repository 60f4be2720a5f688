/- CllAck of the program; conditions: the cell lies in memory of its own. -/
import Derived.Test.YtjmjffhommlbnaaGreatTold
namespace Go.Proofs.YtjmjffhommlbnaaGreat
open Go.RowKit Go.Deep
set_option linter.unusedVariables false

theorem good_rise {c d : Int} {Z : Nat → Nat → Int} {n : Nat} (h : allB c d Z n = true) : ∀ j, j + 1 < n → Z j 0 < Z (j + 1) 0 := fun j hj => by
  have h1 := allB_down n (show j + 2 ≤ n by omega) h
  simp [allB, goodB] at h1
  omega
theorem all_rise {c d : Int} {Z : Nat → Nat → Int} {n : Nat} (h : allB c d Z n = true) (i : Nat) : ∀ j, i < j → j < n → Z i 0 < Z j 0
  | 0, h1, _ => by omega
  | j + 1, h1, h2 => by
    have h3 := good_rise h j h2
    by_cases e : i = j
    · subst e; exact h3
    · have := all_rise h i j (by omega) (by omega)
      omega
theorem cllB_rise {c d : Int} {V : CV} (h : cllB c d V = true) : ∀ i j, i < j → j < V.nW → V.W i 0 < V.W j 0 := by
  simp only [cllB, Bool.and_eq_true] at h
  exact fun i j => all_rise h.2.1 i j
theorem cllB_two {c d : Int} {V : CV} (h : cllB c d V = true) : V.nO = 2 ∧ V.nX = 2 ∧ V.nI = 2 := by
  simp only [cllB, Bool.and_eq_true, beq_iff_eq] at h
  exact ⟨h.2.2.2.1, h.2.2.2.2.1, h.2.2.2.2.2.1⟩
theorem mapW_some {W : Nat → Nat → Int} {z : Int} {m : Nat} : ∀ n, m < n → W m 0 = z → (∀ j, m < j → j < n → ¬ W j 0 = z) → mapW W n z = some (W m)
  | 0, h, _, _ => by omega
  | n + 1, h, hz, hu => by
    by_cases e : m = n
    · subst e; simp [mapW, putM, hz]
    · have h1 : ¬ z = W n 0 := fun e1 => hu n (by omega) (by omega) e1.symm
      simp only [mapW, putM, if_neg h1]
      exact mapW_some n (by omega) hz (fun j h2 h3 => hu j h2 (by omega))
theorem mapW_in {W : Nat → Nat → Int} {z : Int} : ∀ n, (mapW W n z).isSome = true → ∃ m, m < n ∧ W m 0 = z
  | 0, h => by cases h
  | n + 1, h => by
    by_cases e : z = W n 0
    · exact ⟨n, by omega, e.symm⟩
    · simp only [mapW, putM, if_neg e] at h
      obtain ⟨m, h1, h2⟩ := mapW_in n h
      exact ⟨m, by omega, h2⟩
/-- The walkers' numbers. -/
def ids (V : CV) : List Int := (List.range V.nW).map (fun k => V.W k 0)
theorem ids_len {V : CV} : (ids V).length = V.nW := by simp [ids]
theorem ids_asc {c d : Int} {V : CV} (h : cllB c d V = true) : (ids V).Pairwise (· < ·) := by
  have hr := cllB_rise h
  refine List.pairwise_map.2 ((List.pairwise_lt_range (n := V.nW)).imp_of_mem ?_)
  intro i j hi hj hij
  exact hr i j hij (List.mem_range.1 hj)
theorem map_at {c d : Int} {V : CV} (h : cllB c d V = true) (k : Nat) (hk : k < V.nW) : mapW V.W V.nW (V.W k 0) = some (V.W k) :=
  mapW_some V.nW hk rfl (fun j h1 h2 e => by have := cllB_rise h k j h1 h2; omega)
theorem ids_mem {c d : Int} {V : CV} (h : cllB c d V = true) : ∀ z, z ∈ ids V ↔ (mapW V.W V.nW z).isSome = true := fun z => by
  constructor
  · intro hz
    obtain ⟨k, hk, rfl⟩ := List.mem_map.1 hz
    rw [map_at h k (List.mem_range.1 hk)]; rfl
  · intro hz
    obtain ⟨m, h1, rfl⟩ := mapW_in V.nW hz
    exact List.mem_map.2 ⟨m, List.mem_range.2 h1, rfl⟩
theorem ids_at {c d : Int} {V : CV} (h : cllB c d V = true) : ∀ k, k < (ids V).length → V.W k = (mapW V.W V.nW (ids V)[k]!).getD fun _ => 0 := fun k hk => by
  rw [ids_len] at hk
  have e : (ids V)[k]! = V.W k 0 := by simp [ids, hk]
  rw [e, map_at h k hk]; rfl
theorem after_with {V : CV} {q : Nat} {z : Int} : (V.after q z).with V.nW V.W = V.after q z := by
  unfold CV.after
  split <;> rfl
theorem OwnC.low {lo lo' hi : Nat} {w : World} {v : Value} {V : CV} (h : OwnC lo hi w v V) (h0 : lo' ≤ lo) (hh : hi ≤ w.heap.size) : OwnC lo' hi w v V := by
  obtain ⟨vW, vO, vX, vI, gW, gO, gX, gI, sl, xs, e, rW, rO, rX, rI, hd, hx1, hx2⟩ := h
  have sm : ∀ g, Sm w w g := fun g => Sm.refl w g
  refine ⟨vW, vO, vX, vI, gW, gO, gX, gI, sl, xs, e, rW.go h0 (Nat.le_refl _) hh (fun _ _ _ => sm _), ?_, rX.go h0 (Nat.le_refl _) hh (fun _ _ _ => sm _), rI.go h0 (Nat.le_refl _) hh (fun _ _ _ => sm _), hd, hx1, hx2⟩
  rcases rO with r | ⟨co, e1, l1, l2, l3, hc⟩
  · exact .inl r
  · exact .inr ⟨co, e1, by omega, l2, l3, fun k hk => ⟨(hc k hk).1, (hc k hk).2.go h0 (Nat.le_refl _) hh (fun _ _ _ => sm _)⟩⟩

def CV.zero : CV := ⟨0, 0, fun _ _ => 0, 0, 0, fun _ => 0, fun _ _ _ => 0, 0, fun _ => 0, 0, fun _ => 0⟩
/-- What CllAck answers: the cell, and whether something was let go of. -/
def ackR (c d : Int) (V : CV) (side z : Int) : CV × Bool := if cllB c d V = false ∨ sideF c d V.c side = -1 then (CV.zero, false) else (V.after side.toNat z, ackB V side.toNat z)
theorem ackR_no {c d : Int} {V : CV} {side z : Int} (h : cllB c d V = false ∨ sideF c d V.c side = -1) : ackR c d V side z = (CV.zero, false) := if_pos h
theorem ackR_yes {c d : Int} {V : CV} {side z : Int} {q : Nat} (h1 : cllB c d V = true) (h2 : ¬ sideF c d V.c side = -1) (hq : side = (q : Int)) : ackR c d V side z = (V.after q z, ackB V q z) := by
  subst hq
  unfold ackR
  rw [if_neg (fun h => by rcases h with h | h; rw [h1] at h; cases h; exact h2 h)]
  rfl

end Go.Proofs.YtjmjffhommlbnaaGreat
