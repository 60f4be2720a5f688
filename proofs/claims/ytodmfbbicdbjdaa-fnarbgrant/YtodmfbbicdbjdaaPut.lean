/- Writing a block of known cells, whatever their number; conditions: none. -/
import Derived.Test.YtodmfbbicdbjdaaBk
namespace Go.Proofs.Ytodmfbbicdbjdaa
open Go.RowKit Go.Deep
set_option linter.unusedVariables false

theorem Bk.sm {W W' : World} {b : Nat} {l : List Value} (h : Bk W b l) (hz : W.heap.size ≤ W'.heap.size) (k : Sm W W' b) : Bk W' b l :=
  ⟨Nat.lt_of_lt_of_le h.1 hz, fun i hi => by rw [(k i).1, (k i).2]; exact h.2 i hi⟩

/-- The block b, from k on, written with these values. -/
def putL (b : Nat) : List Value → Nat → World → World
  | [], _, W => W
  | v :: l, k, W => putL b l (k + 1) (W.setCell ⟨b, k, none⟩ v)
theorem size_put (b : Nat) : ∀ (l : List Value) (k : Nat) (W : World), (putL b l k W).heap.size = W.heap.size
  | [], _, _ => rfl
  | v :: l, k, W => by rw [putL, size_put b l, set_size]
theorem sm_put {b c : Nat} (h : ¬ c = b) : ∀ (l : List Value) (k : Nat) (W : World), Sm W (putL b l k W) c
  | [], _, W => Sm.refl W c
  | v :: l, k, W => Sm.trans (fun o => ⟨set_out (fun e => h e.1.symm), set_frozen⟩) (sm_put h l (k + 1) _)
theorem below_put {n b : Nat} {A : World} (h : n ≤ b) : ∀ (l : List Value) (k : Nat) {W : World}, Below n A W → Below n A (putL b l k W)
  | [], _, _, hb => hb
  | v :: l, k, W, hb => below_put h l (k + 1) (hb.setCell h v)
theorem cell_put {b : Nat} : ∀ (l : List Value) (k : Nat) (W : World), (∀ i, i < l.length → (W.cell? ⟨b, k + i, none⟩).isSome = true) → ∀ i, i < l.length → (putL b l k W).cell? ⟨b, k + i, none⟩ = some (l.getD i undef)
  | [], _, _, _, i, hi => absurd hi (by simp)
  | v :: l, k, W, h, i, hi => by
    rw [putL]
    have h0 : ∀ (l : List Value) (m : Nat) (W : World) (j : Nat), j < m → (putL b l m W).cell? ⟨b, j, none⟩ = W.cell? ⟨b, j, none⟩ := by
      intro l
      induction l with
      | nil => intro m W j _; rfl
      | cons u l ih => intro m W j hj; rw [putL, ih (m + 1) _ j (by omega), set_out (by omega)]
    by_cases e : i = 0
    · subst e
      show (putL b l (k + 1) (W.setCell ⟨b, k, none⟩ v)).cell? ⟨b, k, none⟩ = _
      rw [h0 l (k + 1) _ k (by omega), set_in (by simpa using h 0 (by simp))]
      rfl
    · obtain ⟨i, rfl⟩ : ∃ j, i = j + 1 := ⟨i - 1, by omega⟩
      have := cell_put l (k + 1) (W.setCell ⟨b, k, none⟩ v) (fun j hj => by
        rw [set_out (by omega), show k + 1 + j = k + (j + 1) by omega]; exact h (j + 1) (by simpa using hj)) i (by simpa using hi)
      rw [show k + (i + 1) = k + 1 + i by omega, this]
      rfl
theorem frozen_put {b c o : Nat} : ∀ (l : List Value) (k : Nat) (W : World), (putL b l k W).frozen? ⟨c, o, none⟩ = W.frozen? ⟨c, o, none⟩
  | [], _, _ => rfl
  | v :: l, k, W => by rw [putL, frozen_put l, set_frozen]
theorem bk_put {W : World} {b : Nat} {l l' : List Value} (h : Bk W b l') (hl : l.length = l'.length) : Bk (putL b l 0 W) b l :=
  ⟨by rw [size_put]; exact h.1, fun i hi => by
    have := cell_put l 0 W (fun j hj => by rw [Nat.zero_add, (h.2 j (by omega)).1]; rfl) i hi
    rw [Nat.zero_add] at this
    exact ⟨this, by rw [frozen_put]; exact (h.2 i (by omega)).2⟩⟩
end Go.Proofs.Ytodmfbbicdbjdaa
