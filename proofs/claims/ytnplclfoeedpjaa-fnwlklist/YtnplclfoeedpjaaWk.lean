/- Lists of walkers of the call's own, cell by cell; conditions: none beyond those typed. -/
import Derived.Test.YtnplclfoeedpjaaBad
namespace Go.Proofs.Ytnplclfoeedpjaa
open Go.RowKit Go.Deep Go.Maps
set_option linter.unusedVariables false

/-- v is a slice of the call's own, not nil, of n walkers, the k-th one's fields Z k 0 .. Z k 4. -/
def Wk (w : World) (base : Nat) (v : Value) (n : Nat) (Z : Nat → Nat → Int) : Prop :=
  ∃ g cap xs, v = .slice (some ⟨g, 0, none⟩) n cap ∧ w.ownsRow base 25 5 v n xs ∧ ∀ k j, k < n → j < 5 → xs[k * 5 + j]? = some (.int .i64 (Z k j))

theorem five_at (Z : Nat → Nat → Int) (k j : Nat) (hj : j < 5) : (five Z k)[j]? = some (.int .i64 (Z k j)) := by
  have h5 : j = 0 ∨ j = 1 ∨ j = 2 ∨ j = 3 ∨ j = 4 := by omega
  rcases h5 with rfl | rfl | rfl | rfl | rfl <;> rfl

theorem Walks.wk {w : World} {base : Nat} {v : Value} {L : List Nat} {Z : Nat → Nat → Int} (h : Walks w base v L Z) : Wk w base v L.length (fun k j => Z L[k]! j) := by
  obtain ⟨g, cap, hv, ho⟩ := h
  refine ⟨g, cap, _, hv, ho, fun k j hk hj => ?_⟩
  rw [get_flat (m := 5) (five Z) (fun _ => rfl) L k j hk hj]
  have := five_at Z L[k]! j hj
  have hl : j < (five Z L[k]!).length := hj
  rw [List.getElem?_eq_getElem hl] at this
  rw [getElem!_pos (five Z L[k]!) j hl]
  exact this

theorem Wk.kept {w w' : World} {base : Nat} {v : Value} {n : Nat} {Z : Nat → Nat → Int} {row : Option Nat} (h : Wk w base v n Z) (hg : w.grownBy w' row) (hr : ∀ k, row = some k → k < base) : Wk w' base v n Z := by
  obtain ⟨g, cap, xs, hv, ho, hc⟩ := h
  refine ⟨g, cap, xs, hv, ho.kept hg (.inr ?_), hc⟩
  subst hv
  intro e
  have := hr g e.symm
  have := (ho.lt g rfl).1
  omega
theorem Wk.below {w w' : World} {base : Nat} {v : Value} {n : Nat} {Z : Nat → Nat → Int} (h : Wk w base v n Z) (hb : Below w.heap.size w w') : Wk w' base v n Z := h.kept (grown_of_below hb) (by simp)
theorem Wk.base {w : World} {base base' : Nat} {v : Value} {n : Nat} {Z : Nat → Nat → Int} (h : Wk w base v n Z) (hb : base' ≤ base) : Wk w base' v n Z := by
  obtain ⟨g, cap, xs, hv, ho, hc⟩ := h
  exact ⟨g, cap, xs, hv, ownsRow_base ho hb, hc⟩
theorem Kept.grown {r : Nat} {w w' : World} (h : Kept r w w') : w.grownBy w' (some r) := ⟨h.os, h.tape, h.output, h.size, fun k hk hn => h.block k hk (fun e => hn (by rw [e]))⟩

theorem Wk.cells {w : World} {base : Nat} {v : Value} {n : Nat} {Z : Nat → Nat → Int} (h : Wk w base v n Z) :
    ∃ g cap, v = .slice (some ⟨g, 0, none⟩) n cap ∧ base ≤ g ∧ g < w.heap.size ∧ (∀ k j, k < n → j < 5 → w.cell? ⟨g, 0 + k * 5 + j, none⟩ = some (.int .i64 (Z k j))) ∧ (∀ j, w.frozen? ⟨g, j, none⟩ = false) := by
  obtain ⟨g, cap, xs, rfl, ho, hc⟩ := h
  refine ⟨g, cap, rfl, (ho.lt g rfl).1, (ho.lt g rfl).2, fun k j hk hj => ?_, fun j => ho.frozenAt j⟩
  rw [Nat.zero_add, ho.cellAt (k * 5 + j) (by omega)]
  exact hc k j hk hj

/-- The k-th one is written anew. -/
theorem Wk.put {w : World} {base : Nat} {n : Nat} {Z Z' : Nat → Nat → Int} {g cap k : Nat} (h : Wk w base (.slice (some ⟨g, 0, none⟩) n cap) n Z) (hk : k < n) (hZ : ∀ i j, i ≠ k → Z' i j = Z i j) : Wk (put5 w g k Z') base (.slice (some ⟨g, 0, none⟩) n cap) n Z' := by
  obtain ⟨g', cap', xs, hv, ho, hc⟩ := h
  cases hv
  have hl : xs.length = n * 5 := ho.1
  refine ⟨g, cap, _, rfl, ((((ho.stored (k * 5) (.int .i64 (Z' k 0))).1.stored (k * 5 + 1) (.int .i64 (Z' k 1))).1.stored (k * 5 + 2) (.int .i64 (Z' k 2))).1.stored (k * 5 + 3) (.int .i64 (Z' k 3))).1.stored (k * 5 + 4) (.int .i64 (Z' k 4)) |>.1, fun i j hi hj => ?_⟩
  simp only [List.getElem?_set, List.length_set]
  by_cases e : i = k
  · subst e
    have h5 : j = 0 ∨ j = 1 ∨ j = 2 ∨ j = 3 ∨ j = 4 := by omega
    rcases h5 with rfl | rfl | rfl | rfl | rfl
    · simp; omega
    · simp; omega
    · simp; omega
    · simp; omega
    · simp; omega
  · rw [if_neg (by omega), if_neg (by omega), if_neg (by omega), if_neg (by omega), if_neg (by omega), hZ i j e]
    exact hc i j hi hj

/-- One more at the end. -/
theorem wk_more {w : World} {base : Nat} {v' : Value} {n : Nat} {Z : Nat → Nat → Int} {xs : List Value} (ho : w.ownsRow base 25 5 v' (n + 1) (xs ++ five Z n)) (hl : xs.length = n * 5) (hn : v' ≠ .slice none 0 0) (hc : ∀ k j, k < n → j < 5 → xs[k * 5 + j]? = some (.int .i64 (Z k j))) : Wk w base v' (n + 1) Z := by
  rcases ho.2 with ⟨e, _⟩ | ⟨g, c, cur, e, _⟩
  · exact absurd e hn
  · refine ⟨g, c, _, e, ho, fun k j hk hj => ?_⟩
    by_cases hkn : k < n
    · rw [List.getElem?_append_left (by omega)]
      exact hc k j hkn hj
    · have : k = n := by omega
      subst this
      rw [List.getElem?_append_right (by omega), hl, show k * 5 + j - k * 5 = j by omega]
      exact five_at Z k j hj

theorem rest_mem {Z : Nat → Nat → Int} {n : Nat} {z : Int} {k : Nat} (h : k ∈ rest Z n z) : k < n ∧ Z k 0 ≠ z := by
  unfold rest at h
  simpa using h
theorem putAt_mem {Z : Nat → Nat → Int} {n : Nat} {L : List Nat} {k : Nat} (h : k ∈ putAt Z n L) : k = n ∨ k ∈ L := by
  unfold putAt at h
  rcases List.mem_append.1 h with h | h
  · exact .inr (List.mem_of_mem_take h)
  · rcases List.mem_cons.1 h with h | h
    · exact .inl h
    · exact .inr (List.mem_of_mem_drop h)
theorem putL_mem {Z : Nat → Nat → Int} {n k : Nat} (h : k ∈ putL Z n) : k < n + 1 := by
  rcases putAt_mem h with h | h
  · omega
  · have := (rest_mem h).1; omega
theorem putL_len (Z : Nat → Nat → Int) (n : Nat) : (putL Z n).length ≤ n + 1 := by
  unfold putL
  rw [putAt_len]
  have := rest_len Z n (Z n 0)
  omega
end Go.Proofs.Ytnplclfoeedpjaa
