/- Blocks of known cells, writing them, and blocks that read as they did; conditions: none. -/
import Derived.Test.YtlmoeacpkkkkcaaGreatDoorTA
import Derived.Deep.OwnRows
import Derived.Laws.AppendOwn
namespace Go.Proofs.YtlmoeacpkkkkcaaGreatDoor
open Go.RowKit Go.Deep
set_option linter.unusedVariables false

theorem set_in {w : World} {B k : Nat} {u : Value} (h : (w.cell? ⟨B, k, none⟩).isSome = true) : (w.setCell ⟨B, k, none⟩ u).cell? ⟨B, k, none⟩ = some u := by
  have := World.cell?_setCells_in B [u] k w (fun j hj => by
    have : j = 0 := by simpa using hj
    subst this; exact h) 0 (by simp)
  rw [show w.setCell ⟨B, k, none⟩ u = w.setCells B k [u] from rfl]
  simpa using this

theorem set_out {w : World} {B k b i : Nat} {u : Value} (h : ¬ (B = b ∧ k = i)) : (w.setCell ⟨B, k, none⟩ u).cell? ⟨b, i, none⟩ = w.cell? ⟨b, i, none⟩ :=
  World.cell?_setCell_other _ _ _ _ (by intro e; injection e with e1 e2; exact h ⟨e1, e2⟩)

theorem set_frozen {w : World} {B k b i : Nat} {u : Value} : (w.setCell ⟨B, k, none⟩ u).frozen? ⟨b, i, none⟩ = w.frozen? ⟨b, i, none⟩ := World.frozen?_setCell ..

theorem set_size {w : World} {B k : Nat} {u : Value} : (w.setCell ⟨B, k, none⟩ u).heap.size = w.heap.size := by simp [World.setCell]

theorem set_grown (w : World) (B i : Nat) (u : Value) : w.grownBy (w.setCell ⟨B, i, none⟩ u) (some B) ∧ (w.setCell ⟨B, i, none⟩ u).heap.size = w.heap.size :=
  ⟨⟨rfl, rfl, rfl, by simp [World.setCell], fun k _ hne => Below.heap_setCell _ _ _ _ (fun e => hne (by rw [e]))⟩, by simp [World.setCell]⟩

theorem add_none (b o k : Nat) : (⟨b, o, none⟩ : Addr).add k = ⟨b, o + k, none⟩ := by
  unfold Addr.add
  split <;> simp_all

/-- Block b reads as it did. -/
def Sm (w w' : World) (b : Nat) : Prop := ∀ o, w'.cell? ⟨b, o, none⟩ = w.cell? ⟨b, o, none⟩ ∧ w'.frozen? ⟨b, o, none⟩ = w.frozen? ⟨b, o, none⟩

theorem Sm.refl (w : World) (b : Nat) : Sm w w b := fun _ => ⟨rfl, rfl⟩

theorem Sm.trans {a b c : World} {g : Nat} (h : Sm a b g) (k : Sm b c g) : Sm a c g := fun o => ⟨(k o).1.trans (h o).1, (k o).2.trans (h o).2⟩

theorem sm_grown {w w' : World} {row : Option Nat} {b : Nat} (h : w.grownBy w' row) (hb : b < w.heap.size) (hne : some b ≠ row) : Sm w w' b := by
  have e : w'.heap[b]? = w.heap[b]? := h.block b hb hne
  exact fun o => ⟨World.cell?_of_block (a := ⟨b, o, none⟩) e, World.frozen?_of_block (a := ⟨b, o, none⟩) e⟩

theorem sm_below {w w' : World} {n b : Nat} (h : Below n w w') (hb : b < n) : Sm w w' b := fun o => ⟨h.cell (p := ⟨b, o, none⟩) hb, h.frozen (p := ⟨b, o, none⟩) hb⟩

theorem below_grown {w w' : World} {g lo : Nat} (h : w.grownBy w' (some g)) (hl : lo ≤ g) (hs : lo ≤ w.heap.size) : Below lo w w' :=
  ⟨h.os, h.tape, h.output, h.size, fun k hk => h.block k (by omega) (by intro e; injection e with e; omega)⟩

/-- Block b of W begins with these values, and may be written. -/
def Bk (W : World) (b : Nat) (l : List Value) : Prop := b < W.heap.size ∧ ∀ i, i < l.length → W.cell? ⟨b, i, none⟩ = some (l.getD i undef) ∧ W.frozen? ⟨b, i, none⟩ = false

theorem Bk.below {W W' : World} {b : Nat} {l : List Value} (h : Bk W b l) (k : Below W.heap.size W W') : Bk W' b l := ⟨Nat.lt_of_lt_of_le h.1 k.size, fun i hi => by
  rw [k.cell (p := ⟨b, i, none⟩) h.1, k.frozen (p := ⟨b, i, none⟩) h.1]; exact h.2 i hi⟩

theorem Bk.far {W : World} {b g j : Nat} {l : List Value} {v : Value} (h : Bk W b l) (hn : ¬ g = b) : Bk (W.setCell ⟨g, j, none⟩ v) b l := ⟨by rw [set_size]; exact h.1, fun i hi => by
  rw [set_out (fun e => hn e.1), set_frozen]; exact h.2 i hi⟩

theorem Bk.set {W : World} {b j : Nat} {l : List Value} {v : Value} (h : Bk W b l) (hj : j < l.length) : Bk (W.setCell ⟨b, j, none⟩ v) b (l.set j v) := ⟨by rw [set_size]; exact h.1, fun i hi => by
  rw [List.length_set] at hi
  rw [set_frozen]
  refine ⟨?_, (h.2 i hi).2⟩
  by_cases e : j = i
  · subst e
    rw [set_in (by rw [(h.2 j hj).1]; rfl)]
    simp [List.getD, hj]
  · rw [set_out (fun k => e k.2), (h.2 i hi).1]
    simp [List.getD, e]⟩

theorem bk_new (W : World) (t : TypeId) (l : List Value) : Bk (W.alloc (.cells l.toArray t)) W.heap.size l := ⟨by simp, fun i hi => by
  have e : l.getD i undef = l[i] := by simp [List.getD, List.getElem?_eq_getElem hi]
  rw [e]
  exact ⟨by simp [hi], by simp⟩⟩

theorem Bk.sm {W W' : World} {b : Nat} {l : List Value} (h : Bk W b l) (hz : W.heap.size ≤ W'.heap.size) (k : Sm W W' b) : Bk W' b l :=
  ⟨Nat.lt_of_lt_of_le h.1 hz, fun i hi => by rw [(k i).1, (k i).2]; exact h.2 i hi⟩

/-- The block b, from k on, written with these values. -/
def putL (b : Nat) : List Value → Nat → World → World
  | [], _, W => W
  | v :: l, k, W => putL b l (k + 1) (W.setCell ⟨b, k, none⟩ v)

theorem size_put (b : Nat) : ∀ (l : List Value) (k : Nat) (W : World), (putL b l k W).heap.size = W.heap.size
  | [], _, _ => rfl
  | v :: l, k, W => by rw [putL, size_put b l, set_size]

theorem sm_put {b c : Nat} (h : ¬ c = b) : ∀ (l : List Value) (k : Nat) (W : World), Sm W (putL b l k W) c
  | [], _, W => Sm.refl W c
  | v :: l, k, W => Sm.trans (fun o => ⟨set_out (fun e => h e.1.symm), set_frozen⟩) (sm_put h l (k + 1) _)

theorem below_put {n b : Nat} {A : World} (h : n ≤ b) : ∀ (l : List Value) (k : Nat) {W : World}, Below n A W → Below n A (putL b l k W)
  | [], _, _, hb => hb
  | v :: l, k, W, hb => below_put h l (k + 1) (hb.setCell h v)

theorem cell_put {b : Nat} : ∀ (l : List Value) (k : Nat) (W : World), (∀ i, i < l.length → (W.cell? ⟨b, k + i, none⟩).isSome = true) → ∀ i, i < l.length → (putL b l k W).cell? ⟨b, k + i, none⟩ = some (l.getD i undef)
  | [], _, _, _, i, hi => absurd hi (by simp)
  | v :: l, k, W, h, i, hi => by
    rw [putL]
    have h0 : ∀ (l : List Value) (m : Nat) (W : World) (j : Nat), j < m → (putL b l m W).cell? ⟨b, j, none⟩ = W.cell? ⟨b, j, none⟩ := by
      intro l
      induction l with
      | nil => intro m W j _; rfl
      | cons u l ih => intro m W j hj; rw [putL, ih (m + 1) _ j (by omega), set_out (by omega)]
    by_cases e : i = 0
    · subst e
      show (putL b l (k + 1) (W.setCell ⟨b, k, none⟩ v)).cell? ⟨b, k, none⟩ = _
      rw [h0 l (k + 1) _ k (by omega), set_in (by simpa using h 0 (by simp))]
      rfl
    · obtain ⟨i, rfl⟩ : ∃ j, i = j + 1 := ⟨i - 1, by omega⟩
      have := cell_put l (k + 1) (W.setCell ⟨b, k, none⟩ v) (fun j hj => by
        rw [set_out (by omega), show k + 1 + j = k + (j + 1) by omega]; exact h (j + 1) (by simpa using hj)) i (by simpa using hi)
      rw [show k + (i + 1) = k + 1 + i by omega, this]
      rfl

theorem frozen_put {b c o : Nat} : ∀ (l : List Value) (k : Nat) (W : World), (putL b l k W).frozen? ⟨c, o, none⟩ = W.frozen? ⟨c, o, none⟩
  | [], _, _ => rfl
  | v :: l, k, W => by rw [putL, frozen_put l, set_frozen]

theorem bk_put {W : World} {b : Nat} {l l' : List Value} (h : Bk W b l') (hl : l.length = l'.length) : Bk (putL b l 0 W) b l :=
  ⟨by rw [size_put]; exact h.1, fun i hi => by
    have := cell_put l 0 W (fun j hj => by rw [Nat.zero_add, (h.2 j (by omega)).1]; rfl) i hi
    rw [Nat.zero_add] at this
    exact ⟨this, by rw [frozen_put]; exact (h.2 i (by omega)).2⟩⟩

theorem bthenN {n : Nat} {a b c : World} (h : Below n a b) (hn : n ≤ a.heap.size) (k : Below b.heap.size b c) : Below n a c := h.trans (k.mono (Nat.le_trans hn h.size))
theorem bcellN {n : Nat} {W w1 : World} (hb : Below n W w1) : (∀ b o, b < n → w1.cell? ⟨b, o, none⟩ = W.cell? ⟨b, o, none⟩) ∧ (∀ b o, b < n → w1.frozen? ⟨b, o, none⟩ = W.frozen? ⟨b, o, none⟩) :=
  ⟨fun b o h => hb.cell (p := ⟨b, o, none⟩) h, fun b o h => hb.frozen (p := ⟨b, o, none⟩) h⟩
end Go.Proofs.YtlmoeacpkkkkcaaGreatDoor
