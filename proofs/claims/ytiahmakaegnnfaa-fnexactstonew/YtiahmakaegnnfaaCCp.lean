/- The program's copyList, of walkers, parcels and numbers: the same list in memory of its own; conditions: the list lies in memory. -/
import Derived.Test.YtiahmakaegnnfaaCMk2
import Derived.Laws.AppendOwn
namespace Go.Proofs.Ytiahmakaegnnfaa
open Go.RowKit Go.Deep
set_option linter.unusedVariables false

def one1 (X : Nat → Int) (k : Nat) : List Value := [.int .i64 (X k)]
def five5 (Z : Nat → Nat → Int) (k : Nat) : List Value := [.int .i64 (Z k 0), .int .i64 (Z k 1), .int .i64 (Z k 2), .int .i64 (Z k 3), .int .i64 (Z k 4)]
/-- Two rows after each other read so. -/
theorem flat_get {m : Nat} (f : Nat → List Value) (hf : ∀ k, (f k).length = m) (hm : 0 < m) : ∀ n i, i < n * m → ((List.range n).flatMap f)[i]? = (f (i / m))[i % m]?
  | 0, i, h => by omega
  | n + 1, i, h => by
    rw [List.range_succ, List.flatMap_append]
    have hl : ((List.range n).flatMap f).length = n * m := by
      clear h
      induction n with
      | zero => simp
      | succ n ih => rw [List.range_succ, List.flatMap_append, List.length_append, ih]; simp [hf, Nat.succ_mul]
    by_cases hi : i < n * m
    · rw [List.getElem?_append_left (by omega)]
      exact flat_get f hf hm n i hi
    · rw [List.getElem?_append_right (by omega), hl]
      have h1 : i / m = n := Nat.div_eq_of_lt_le (by omega) (by omega)
      have h2 : i % m = i - n * m := by
        have := Nat.div_add_mod i m
        rw [h1, Nat.mul_comm] at this
        omega
      rw [h1, h2]
      simp

theorem rw_of_own {w : World} {base n : Nat} {v : Value} {Z : Nat → Nat → Int} (h : w.ownsRow base 36 5 v n ((List.range n).flatMap (five5 Z))) : ∃ g, RW base w.heap.size w v n Z g ∧ (v.ownBlock = none ∨ v.ownBlock = some g) := by
  rcases h.2 with ⟨e, hl⟩ | ⟨g, cap, cur, hv, _⟩
  · subst e; subst hl
    exact ⟨0, .inl ⟨rfl, none, 0, rfl⟩, .inl rfl⟩
  · have ho : w.ownsRow base 36 5 (.slice (some ⟨g, 0, none⟩) n cap) n ((List.range n).flatMap (five5 Z)) := by rw [← hv]; exact h
    refine ⟨g, .inr ⟨cap, hv, (ho.lt g rfl).1, (ho.lt g rfl).2, Nat.le_refl _, fun i hi => ⟨?_, ho.frozenAt i⟩, fun k j hk hj => ?_⟩, .inr (by rw [hv]; rfl)⟩
    · rw [ho.cellAt i (by omega)]
      have : i < ((List.range n).flatMap (five5 Z)).length := by rw [ho.1]; omega
      rw [List.getElem?_eq_getElem this]
      rfl
    · skip
      have hlt : k * 5 + j < n * 5 := by omega
      rw [ho.cellAt (k * 5 + j) hlt, flat_get (five5 Z) (fun _ => rfl) (by decide) n _ hlt, show (k * 5 + j) / 5 = k by omega, show (k * 5 + j) % 5 = j by omega]
      match j, hj with
      | 0, _ => rfl
      | 1, _ => rfl
      | 2, _ => rfl
      | 3, _ => rfl
      | 4, _ => rfl

theorem rp_of_own {w : World} {base n : Nat} {v : Value} {Z : Nat → Nat → Int} (h : w.ownsRow base 38 8 v n ((List.range n).flatMap (P8.eight Z))) : ∃ g, RP base w.heap.size w v n Z g ∧ (v.ownBlock = none ∨ v.ownBlock = some g) := by
  rcases h.2 with ⟨e, hl⟩ | ⟨g, cap, cur, hv, _⟩
  · subst e; subst hl
    exact ⟨0, .inl ⟨rfl, none, 0, rfl⟩, .inl rfl⟩
  · have ho : w.ownsRow base 38 8 (.slice (some ⟨g, 0, none⟩) n cap) n ((List.range n).flatMap (P8.eight Z)) := by rw [← hv]; exact h
    refine ⟨g, .inr ⟨cap, hv, (ho.lt g rfl).1, (ho.lt g rfl).2, Nat.le_refl _, fun i hi => ⟨?_, ho.frozenAt i⟩, fun k j hk hj => ?_⟩, .inr (by rw [hv]; rfl)⟩
    · rw [ho.cellAt i (by omega)]
      have : i < ((List.range n).flatMap (P8.eight Z)).length := by rw [ho.1]; omega
      rw [List.getElem?_eq_getElem this]
      rfl
    · skip
      have hlt : k * 8 + j < n * 8 := by omega
      rw [ho.cellAt (k * 8 + j) hlt, flat_get (P8.eight Z) (fun _ => rfl) (by decide) n _ hlt, show (k * 8 + j) / 8 = k by omega, show (k * 8 + j) % 8 = j by omega]
      match j, hj with
      | 0, _ => rfl
      | 1, _ => rfl
      | 2, _ => rfl
      | 3, _ => rfl
      | 4, _ => rfl
      | 5, _ => rfl
      | 6, _ => rfl
      | 7, _ => rfl

theorem ri_of_own {w : World} {base n : Nat} {v : Value} {X : Nat → Int} (h : w.ownsRow base 3 1 v n ((List.range n).flatMap (one1 X))) : ∃ g, RI base w.heap.size w v n X g ∧ (v.ownBlock = none ∨ v.ownBlock = some g) := by
  rcases h.2 with ⟨e, hl⟩ | ⟨g, cap, cur, hv, _⟩
  · subst e; subst hl
    exact ⟨0, .inl ⟨rfl, none, 0, rfl⟩, .inl rfl⟩
  · have ho : w.ownsRow base 3 1 (.slice (some ⟨g, 0, none⟩) n cap) n ((List.range n).flatMap (one1 X)) := by rw [← hv]; exact h
    refine ⟨g, .inr ⟨cap, hv, (ho.lt g rfl).1, (ho.lt g rfl).2, Nat.le_refl _, fun i hi => ⟨?_, ho.frozenAt i⟩, fun k hk => ?_⟩, .inr (by rw [hv]; rfl)⟩
    · rw [ho.cellAt i (by omega)]
      have : i < ((List.range n).flatMap (one1 X)).length := by rw [ho.1]; omega
      rw [List.getElem?_eq_getElem this]
      rfl
    · skip
      rw [ho.cellAt k (by omega), flat_get (m := 1) (one1 X) (fun _ => rfl) (by decide) n k (by omega), Nat.div_one, Nat.mod_one]
      rfl
end Go.Proofs.Ytiahmakaegnnfaa
