/- Parcels of the call's own, cell by cell; conditions: none beyond those typed. -/
import Derived.Test.YtkobiniogigloaaMark8
import Derived.Test.YtkobiniogigloaaAnyP
namespace Go.Proofs.Ytkobiniogigloaa
open Go.RowKit Go.Deep
set_option linter.unusedVariables false

/-- v is a slice of the call's own, not nil, of n parcels, the k-th one's fields Z k 0 .. Z k 7. -/
def W8 (w : World) (base : Nat) (v : Value) (n : Nat) (Z : Nat → Nat → Int) : Prop :=
  ∃ g cap xs, v = .slice (some ⟨g, 0, none⟩) n cap ∧ w.ownsRow base 43 8 v n xs ∧ ∀ k j, k < n → j < 8 → xs[k * 8 + j]? = some (.int .i64 (Z k j))
theorem ownsRow_base {w : World} {base base' : Nat} {e : TypeId} {size : Nat} {v : Value} {n : Nat} {xs : List Value} (h : w.ownsRow base e size v n xs) (hb : base' ≤ base) : w.ownsRow base' e size v n xs := by
  refine ⟨h.1, ?_⟩
  rcases h.2 with h | ⟨g, cap, cur, hv, hg, r⟩
  · exact .inl h
  · exact .inr ⟨g, cap, cur, hv, Nat.le_trans hb hg, r⟩
theorem eight_at (Z : Nat → Nat → Int) (k j : Nat) (hj : j < 8) : (eight Z k)[j]? = some (.int .i64 (Z k j)) := by
  have h8 : j = 0 ∨ j = 1 ∨ j = 2 ∨ j = 3 ∨ j = 4 ∨ j = 5 ∨ j = 6 ∨ j = 7 := by omega
  rcases h8 with rfl | rfl | rfl | rfl | rfl | rfl | rfl | rfl <;> rfl
theorem W8.kept {w w' : World} {base : Nat} {v : Value} {n : Nat} {Z : Nat → Nat → Int} {row : Option Nat} (h : W8 w base v n Z) (hg : w.grownBy w' row) (hr : ∀ k, row = some k → k < base) : W8 w' base v n Z := by
  obtain ⟨g, cap, xs, hv, ho, hc⟩ := h
  refine ⟨g, cap, xs, hv, ho.kept hg (.inr ?_), hc⟩
  subst hv
  intro e
  have := hr g e.symm
  have := (ho.lt g rfl).1
  omega
theorem W8.below {w w' : World} {base : Nat} {v : Value} {n : Nat} {Z : Nat → Nat → Int} (h : W8 w base v n Z) (hb : Below w.heap.size w w') : W8 w' base v n Z := h.kept (grown_of_below hb) (by simp)
theorem W8.base {w : World} {base base' : Nat} {v : Value} {n : Nat} {Z : Nat → Nat → Int} (h : W8 w base v n Z) (hb : base' ≤ base) : W8 w base' v n Z := by
  obtain ⟨g, cap, xs, hv, ho, hc⟩ := h
  exact ⟨g, cap, xs, hv, ownsRow_base ho hb, hc⟩
theorem Kept.grown {r : Nat} {w w' : World} (h : Kept r w w') : w.grownBy w' (some r) := ⟨h.os, h.tape, h.output, h.size, fun k hk hn => h.block k hk (fun e => hn (by rw [e]))⟩
theorem W8.cells {w : World} {base : Nat} {v : Value} {n : Nat} {Z : Nat → Nat → Int} (h : W8 w base v n Z) :
    ∃ g cap, v = .slice (some ⟨g, 0, none⟩) n cap ∧ base ≤ g ∧ g < w.heap.size ∧ (∀ k j, k < n → j < 8 → w.cell? ⟨g, 0 + k * 8 + j, none⟩ = some (.int .i64 (Z k j))) ∧ (∀ j, w.frozen? ⟨g, j, none⟩ = false) := by
  obtain ⟨g, cap, xs, rfl, ho, hc⟩ := h
  refine ⟨g, cap, rfl, (ho.lt g rfl).1, (ho.lt g rfl).2, fun k j hk hj => ?_, fun j => ho.frozenAt j⟩
  rw [Nat.zero_add, ho.cellAt (k * 8 + j) (by omega)]
  exact hc k j hk hj
theorem W8.put0 {w : World} {base : Nat} {n : Nat} {Z Z' : Nat → Nat → Int} {g cap : Nat} (h : W8 w base (.slice (some ⟨g, 0, none⟩) n cap) n Z) (hk : 0 < n) (hZ : ∀ i j, i ≠ 0 → Z' i j = Z i j) : W8 (puts g (eight Z' 0) 0 w) base (.slice (some ⟨g, 0, none⟩) n cap) n Z' := by
  obtain ⟨g', cap', xs, hv, ho, hc⟩ := h
  cases hv
  have hl : xs.length = n * 8 := ho.1
  refine ⟨g, cap, _, rfl, (((((((ho.stored 0 (.int .i64 (Z' 0 0))).1.stored 1 (.int .i64 (Z' 0 1))).1.stored 2 (.int .i64 (Z' 0 2))).1.stored 3 (.int .i64 (Z' 0 3))).1.stored 4 (.int .i64 (Z' 0 4))).1.stored 5 (.int .i64 (Z' 0 5))).1.stored 6 (.int .i64 (Z' 0 6))).1.stored 7 (.int .i64 (Z' 0 7)) |>.1, fun i j hi hj => ?_⟩
  simp only [List.getElem?_set, List.length_set]
  by_cases e : i = 0
  · subst e
    have h8 : j = 0 ∨ j = 1 ∨ j = 2 ∨ j = 3 ∨ j = 4 ∨ j = 5 ∨ j = 6 ∨ j = 7 := by omega
    rcases h8 with rfl | rfl | rfl | rfl | rfl | rfl | rfl | rfl
    all_goals (simp only [Nat.zero_mul, Nat.zero_add]; simp [hl]; try omega)
  · rw [if_neg (by omega), if_neg (by omega), if_neg (by omega), if_neg (by omega), if_neg (by omega), if_neg (by omega), if_neg (by omega), if_neg (by omega), hZ i j e]
    exact hc i j hi hj
theorem w8_more {w : World} {base : Nat} {v' : Value} {n : Nat} {Z : Nat → Nat → Int} {xs : List Value} (ho : w.ownsRow base 43 8 v' (n + 1) (xs ++ eight Z n)) (hl : xs.length = n * 8) (hn : v' ≠ .slice none 0 0) (hc : ∀ k j, k < n → j < 8 → xs[k * 8 + j]? = some (.int .i64 (Z k j))) : W8 w base v' (n + 1) Z := by
  rcases ho.2 with ⟨e, _⟩ | ⟨g, c, cur, e, _⟩
  · exact absurd e hn
  · refine ⟨g, c, _, e, ho, fun k j hk hj => ?_⟩
    by_cases hkn : k < n
    · rw [List.getElem?_append_left (by omega)]
      exact hc k j hkn hj
    · have : k = n := by omega
      subst this
      rw [List.getElem?_append_right (by omega), hl, show k * 8 + j - k * 8 = j by omega]
      exact eight_at Z k j hj
theorem ext8 (Z : Nat → Nat → Int) (n : Nat) (f : Nat → Int) : ∃ Z' : Nat → Nat → Int, (∀ k j, k ≠ n → Z' k j = Z k j) ∧ (∀ j, Z' n j = f j) :=
  ⟨fun k j => if k = n then f j else Z k j, fun k j hk => if_neg hk, fun j => if_pos rfl⟩
theorem RdB.below {w w' : World} {r : Nat} {a : Option Addr} {len cap : Nat} {m : Int} (h : RdB w r a len cap m) (hb : Below (r + 1) w w') : RdB w' r a len cap m := by
  obtain ⟨p, h0, h1, h⟩ := h; exact ⟨p, h0, h1, h.below hb⟩
theorem lits_in (zs : List Int) (h : ∀ z ∈ zs, -1 ≤ z ∧ z ≤ 5001) {k : Nat} : -1 ≤ zs.getD k 0 ∧ zs.getD k 0 ≤ 5001 := by
  by_cases hk : k < zs.length
  · rw [show zs.getD k 0 = zs[k] by simp [List.getD, hk]]
    exact h _ (List.getElem_mem hk)
  · rw [show zs.getD k 0 = 0 by simp [List.getD, hk]]
    exact ⟨by decide, by decide⟩
end Go.Proofs.Ytkobiniogigloaa
