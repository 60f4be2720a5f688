/- The walks of the law's own helpers on lists of walkers: the marks laid, the marks read, two lists compared; conditions: the list is the call's own. -/
import Derived.Test.YtnplclfoeedpjaaOut
namespace Go.Proofs.Ytnplclfoeedpjaa
open Go.RowKit Go.Deep Go.Maps
set_option linter.unusedVariables false

/-- The marks. -/
def M (k j : Nat) : Int := ((1 + k * 5 + j : Nat) : Int)

theorem own_grown {w w' : World} {B n k : Nat} {Z : Nat → Nat → Int} {row : Option Nat} (h : Own5 w B n Z k) (hB : B < w.heap.size) (hg : w.grownBy w' row) (hne : some B ≠ row) : Own5 w' B n Z k := by
  have e : w'.heap[B]? = w.heap[B]? := hg.block B hB hne
  refine ⟨fun i hi => ?_, fun k' j hk hj => ?_⟩
  · rw [World.cell?_of_block (a := ⟨B, i, none⟩) e, World.frozen?_of_block (a := ⟨B, i, none⟩) e]; exact h.1 i hi
  · rw [World.cell?_of_block (a := ⟨B, k' * 5 + j, none⟩) e]; exact h.2 k' j hk hj

theorem set_grown (w : World) (B i : Nat) (u : Value) : w.grownBy (w.setCell ⟨B, i, none⟩ u) (some B) ∧ (w.setCell ⟨B, i, none⟩ u).heap.size = w.heap.size :=
  ⟨⟨rfl, rfl, rfl, by simp [World.setCell], fun k _ hne => Below.heap_setCell _ _ _ _ (fun e => hne (by rw [e]))⟩, by simp [World.setCell]⟩

theorem put5_grown (w : World) (B k : Nat) (Z : Nat → Nat → Int) : w.grownBy (put5 w B k Z) (some B) ∧ (put5 w B k Z).heap.size = w.heap.size := by
  unfold put5
  refine ⟨((((set_grown _ _ _ _).1.trans (set_grown _ _ _ _).1).trans (set_grown _ _ _ _).1).trans (set_grown _ _ _ _).1).trans (set_grown _ _ _ _).1, ?_⟩
  rw [(set_grown _ _ _ _).2, (set_grown _ _ _ _).2, (set_grown _ _ _ _).2, (set_grown _ _ _ _).2, (set_grown _ _ _ _).2]

theorem Walks.kept {w w' : World} {base : Nat} {v : Value} {L : List Nat} {Z : Nat → Nat → Int} {row : Option Nat} (h : Walks w base v L Z) (hg : w.grownBy w' row) (hne : v.ownBlock ≠ row) : Walks w' base v L Z := by
  obtain ⟨g, cap, hv, ho⟩ := h
  exact ⟨g, cap, hv, ho.kept hg (.inr hne)⟩

theorem Walks.below {w w' : World} {base : Nat} {v : Value} {L : List Nat} {Z : Nat → Nat → Int} (h : Walks w base v L Z) (hb : Below w.heap.size w w') : Walks w' base v L Z := by
  obtain ⟨g, cap, hv, ho⟩ := h
  exact ⟨g, cap, hv, ho.kept (grown_of_below hb) (by subst hv; simp [Value.ownBlock])⟩

theorem Walks.block {w : World} {base : Nat} {v : Value} {L : List Nat} {Z : Nat → Nat → Int} (h : Walks w base v L Z) : ∃ g, v.ownBlock = some g ∧ base ≤ g ∧ g < w.heap.size := by
  obtain ⟨g, cap, rfl, ho⟩ := h
  exact ⟨g, rfl, ho.lt g rfl⟩

theorem Walks.own {w : World} {base : Nat} {v : Value} {L : List Nat} {Z : Nat → Nat → Int} (h : Walks w base v L Z) : ∃ g cap, v = .slice (some ⟨g, 0, none⟩) L.length cap ∧ base ≤ g ∧ g < w.heap.size ∧ Own5 w g L.length (fun k j => Z L[k]! j) L.length := by
  obtain ⟨g, cap, rfl, ho⟩ := h
  refine ⟨g, cap, rfl, (ho.lt g rfl).1, (ho.lt g rfl).2, fun i hi => ⟨?_, ho.frozenAt i⟩, fun k j hk hj => ?_⟩
  · rw [ho.cellAt i hi]
    have : i < (L.flatMap (five Z)).length := by rw [ho.1]; exact hi
    rw [List.getElem?_eq_getElem this]
    rfl
  · rw [ho.cellAt (k * 5 + j) (by omega), get_flat (m := 5) (five Z) (fun _ => rfl) L k j hk hj]
    match j, hj with
    | 0, _ => rfl
    | 1, _ => rfl
    | 2, _ => rfl
    | 3, _ => rfl
    | 4, _ => rfl

end Go.Proofs.Ytnplclfoeedpjaa
