/- A block of known cells, whatever their number; conditions: none. -/
import Derived.Test.YtodmfbbicdbjdaaInts
namespace Go.Proofs.Ytodmfbbicdbjdaa
open Go.RowKit Go.Deep
set_option linter.unusedVariables false

/-- Block b of W begins with these values, and may be written. -/
def Bk (W : World) (b : Nat) (l : List Value) : Prop := b < W.heap.size ∧ ∀ i, i < l.length → W.cell? ⟨b, i, none⟩ = some (l.getD i undef) ∧ W.frozen? ⟨b, i, none⟩ = false
theorem Bk.below {W W' : World} {b : Nat} {l : List Value} (h : Bk W b l) (k : Below W.heap.size W W') : Bk W' b l := ⟨Nat.lt_of_lt_of_le h.1 k.size, fun i hi => by
  rw [k.cell (p := ⟨b, i, none⟩) h.1, k.frozen (p := ⟨b, i, none⟩) h.1]; exact h.2 i hi⟩
theorem Bk.far {W : World} {b g j : Nat} {l : List Value} {v : Value} (h : Bk W b l) (hn : ¬ g = b) : Bk (W.setCell ⟨g, j, none⟩ v) b l := ⟨by rw [set_size]; exact h.1, fun i hi => by
  rw [set_out (fun e => hn e.1), set_frozen]; exact h.2 i hi⟩
theorem Bk.set {W : World} {b j : Nat} {l : List Value} {v : Value} (h : Bk W b l) (hj : j < l.length) : Bk (W.setCell ⟨b, j, none⟩ v) b (l.set j v) := ⟨by rw [set_size]; exact h.1, fun i hi => by
  rw [List.length_set] at hi
  rw [set_frozen]
  refine ⟨?_, (h.2 i hi).2⟩
  by_cases e : j = i
  · subst e
    rw [set_in (by rw [(h.2 j hj).1]; rfl)]
    simp [List.getD, hj]
  · rw [set_out (fun k => e k.2), (h.2 i hi).1]
    simp [List.getD, e]⟩
theorem bk_new (W : World) (t : TypeId) (l : List Value) : Bk (W.alloc (.cells l.toArray t)) W.heap.size l := ⟨by simp, fun i hi => by
  have e : l.getD i undef = l[i] := by simp [List.getD, List.getElem?_eq_getElem hi]
  rw [e]
  exact ⟨by simp [hi], by simp⟩⟩
end Go.Proofs.Ytodmfbbicdbjdaa
