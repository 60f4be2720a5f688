/- Blocks of known cells, writing them, and blocks that read as they did; conditions: none. -/
import Derived.Test.YtgjapdjidighlabGreatKit
import Derived.Deep.OwnRows
import Derived.Laws.AppendOwn
namespace Go.Proofs.YtgjapdjidighlabGreat
open Go.RowKit Go.Deep
set_option linter.unusedVariables false
theorem set_in {w : World} {B k : Nat} {u : Value} (h : (w.cell? ⟨B, k, none⟩).isSome = true) : (w.setCell ⟨B, k, none⟩ u).cell? ⟨B, k, none⟩ = some u := by
  have := World.cell?_setCells_in B [u] k w (fun j hj => by
    have : j = 0 := by simpa using hj
    subst this; exact h) 0 (by simp)
  rw [show w.setCell ⟨B, k, none⟩ u = w.setCells B k [u] from rfl]
  simpa using this
theorem set_out {w : World} {B k b i : Nat} {u : Value} (h : ¬ (B = b ∧ k = i)) : (w.setCell ⟨B, k, none⟩ u).cell? ⟨b, i, none⟩ = w.cell? ⟨b, i, none⟩ :=
  World.cell?_setCell_other _ _ _ _ (by intro e; injection e with e1 e2; exact h ⟨e1, e2⟩)
theorem set_frozen {w : World} {B k b i : Nat} {u : Value} : (w.setCell ⟨B, k, none⟩ u).frozen? ⟨b, i, none⟩ = w.frozen? ⟨b, i, none⟩ := World.frozen?_setCell ..
theorem set_size {w : World} {B k : Nat} {u : Value} : (w.setCell ⟨B, k, none⟩ u).heap.size = w.heap.size := by simp [World.setCell]
theorem set_grown (w : World) (B i : Nat) (u : Value) : w.grownBy (w.setCell ⟨B, i, none⟩ u) (some B) ∧ (w.setCell ⟨B, i, none⟩ u).heap.size = w.heap.size :=
  ⟨⟨rfl, rfl, rfl, by simp [World.setCell], fun k _ hne => Below.heap_setCell _ _ _ _ (fun e => hne (by rw [e]))⟩, by simp [World.setCell]⟩
theorem add_none (b o k : Nat) : (⟨b, o, none⟩ : Addr).add k = ⟨b, o + k, none⟩ := by
  unfold Addr.add
  split <;> simp_all
def Sm (w w' : World) (b : Nat) : Prop := ∀ o, w'.cell? ⟨b, o, none⟩ = w.cell? ⟨b, o, none⟩ ∧ w'.frozen? ⟨b, o, none⟩ = w.frozen? ⟨b, o, none⟩
theorem Sm.refl (w : World) (b : Nat) : Sm w w b := fun _ => ⟨rfl, rfl⟩
theorem Sm.trans {a b c : World} {g : Nat} (h : Sm a b g) (k : Sm b c g) : Sm a c g := fun o => ⟨(k o).1.trans (h o).1, (k o).2.trans (h o).2⟩
theorem sm_grown {w w' : World} {row : Option Nat} {b : Nat} (h : w.grownBy w' row) (hb : b < w.heap.size) (hne : some b ≠ row) : Sm w w' b := by
  have e : w'.heap[b]? = w.heap[b]? := h.block b hb hne
  exact fun o => ⟨World.cell?_of_block (a := ⟨b, o, none⟩) e, World.frozen?_of_block (a := ⟨b, o, none⟩) e⟩
theorem sm_below {w w' : World} {n b : Nat} (h : Below n w w') (hb : b < n) : Sm w w' b := fun o => ⟨h.cell (p := ⟨b, o, none⟩) hb, h.frozen (p := ⟨b, o, none⟩) hb⟩
theorem below_grown {w w' : World} {g lo : Nat} (h : w.grownBy w' (some g)) (hl : lo ≤ g) (hs : lo ≤ w.heap.size) : Below lo w w' :=
  ⟨h.os, h.tape, h.output, h.size, fun k hk => h.block k (by omega) (by intro e; injection e with e; omega)⟩
def Bk (W : World) (b : Nat) (l : List Value) : Prop := b < W.heap.size ∧ ∀ i, i < l.length → W.cell? ⟨b, i, none⟩ = some (l.getD i undef) ∧ W.frozen? ⟨b, i, none⟩ = false
theorem Bk.a1 {W : World} {b : Nat} {v0 : Value} (h : Bk W b [v0]) : W.cell? ⟨b, 0, none⟩ = some v0 := (h.2 0 (by simp)).1
theorem Bk.f1 {W : World} {b : Nat} {v0 : Value} (h : Bk W b [v0]) : W.frozen? ⟨b, 0, none⟩ = false := (h.2 0 (by simp)).2
theorem Bk.a2 {W : World} {b : Nat} {v0 v1 : Value} (h : Bk W b [v0, v1]) : W.cell? ⟨b, 0, none⟩ = some v0 ∧ W.cell? ⟨b, 1, none⟩ = some v1 := ⟨(h.2 0 (by simp)).1, (h.2 1 (by simp)).1⟩
theorem Bk.f2 {W : World} {b : Nat} {v0 v1 : Value} (h : Bk W b [v0, v1]) : W.frozen? ⟨b, 0, none⟩ = false ∧ W.frozen? ⟨b, 1, none⟩ = false := ⟨(h.2 0 (by simp)).2, (h.2 1 (by simp)).2⟩
theorem Bk.a6 {W : World} {b : Nat} {v0 v1 v2 v3 v4 v5 : Value} (h : Bk W b [v0, v1, v2, v3, v4, v5]) : W.cell? ⟨b, 0, none⟩ = some v0 ∧ W.cell? ⟨b, 1, none⟩ = some v1 ∧ W.cell? ⟨b, 2, none⟩ = some v2 ∧ W.cell? ⟨b, 3, none⟩ = some v3 ∧ W.cell? ⟨b, 4, none⟩ = some v4 ∧ W.cell? ⟨b, 5, none⟩ = some v5 := ⟨(h.2 0 (by simp)).1, (h.2 1 (by simp)).1, (h.2 2 (by simp)).1, (h.2 3 (by simp)).1, (h.2 4 (by simp)).1, (h.2 5 (by simp)).1⟩
theorem Bk.f6 {W : World} {b : Nat} {v0 v1 v2 v3 v4 v5 : Value} (h : Bk W b [v0, v1, v2, v3, v4, v5]) : W.frozen? ⟨b, 0, none⟩ = false ∧ W.frozen? ⟨b, 1, none⟩ = false ∧ W.frozen? ⟨b, 2, none⟩ = false ∧ W.frozen? ⟨b, 3, none⟩ = false ∧ W.frozen? ⟨b, 4, none⟩ = false ∧ W.frozen? ⟨b, 5, none⟩ = false := ⟨(h.2 0 (by simp)).2, (h.2 1 (by simp)).2, (h.2 2 (by simp)).2, (h.2 3 (by simp)).2, (h.2 4 (by simp)).2, (h.2 5 (by simp)).2⟩
theorem Bk.a7 {W : World} {b : Nat} {v0 v1 v2 v3 v4 v5 v6 : Value} (h : Bk W b [v0, v1, v2, v3, v4, v5, v6]) : W.cell? ⟨b, 0, none⟩ = some v0 ∧ W.cell? ⟨b, 1, none⟩ = some v1 ∧ W.cell? ⟨b, 2, none⟩ = some v2 ∧ W.cell? ⟨b, 3, none⟩ = some v3 ∧ W.cell? ⟨b, 4, none⟩ = some v4 ∧ W.cell? ⟨b, 5, none⟩ = some v5 ∧ W.cell? ⟨b, 6, none⟩ = some v6 := ⟨(h.2 0 (by simp)).1, (h.2 1 (by simp)).1, (h.2 2 (by simp)).1, (h.2 3 (by simp)).1, (h.2 4 (by simp)).1, (h.2 5 (by simp)).1, (h.2 6 (by simp)).1⟩
theorem Bk.f7 {W : World} {b : Nat} {v0 v1 v2 v3 v4 v5 v6 : Value} (h : Bk W b [v0, v1, v2, v3, v4, v5, v6]) : W.frozen? ⟨b, 0, none⟩ = false ∧ W.frozen? ⟨b, 1, none⟩ = false ∧ W.frozen? ⟨b, 2, none⟩ = false ∧ W.frozen? ⟨b, 3, none⟩ = false ∧ W.frozen? ⟨b, 4, none⟩ = false ∧ W.frozen? ⟨b, 5, none⟩ = false ∧ W.frozen? ⟨b, 6, none⟩ = false := ⟨(h.2 0 (by simp)).2, (h.2 1 (by simp)).2, (h.2 2 (by simp)).2, (h.2 3 (by simp)).2, (h.2 4 (by simp)).2, (h.2 5 (by simp)).2, (h.2 6 (by simp)).2⟩
theorem Bk.a8 {W : World} {b : Nat} {v0 v1 v2 v3 v4 v5 v6 v7 : Value} (h : Bk W b [v0, v1, v2, v3, v4, v5, v6, v7]) : W.cell? ⟨b, 0, none⟩ = some v0 ∧ W.cell? ⟨b, 1, none⟩ = some v1 ∧ W.cell? ⟨b, 2, none⟩ = some v2 ∧ W.cell? ⟨b, 3, none⟩ = some v3 ∧ W.cell? ⟨b, 4, none⟩ = some v4 ∧ W.cell? ⟨b, 5, none⟩ = some v5 ∧ W.cell? ⟨b, 6, none⟩ = some v6 ∧ W.cell? ⟨b, 7, none⟩ = some v7 := ⟨(h.2 0 (by simp)).1, (h.2 1 (by simp)).1, (h.2 2 (by simp)).1, (h.2 3 (by simp)).1, (h.2 4 (by simp)).1, (h.2 5 (by simp)).1, (h.2 6 (by simp)).1, (h.2 7 (by simp)).1⟩
theorem Bk.f8 {W : World} {b : Nat} {v0 v1 v2 v3 v4 v5 v6 v7 : Value} (h : Bk W b [v0, v1, v2, v3, v4, v5, v6, v7]) : W.frozen? ⟨b, 0, none⟩ = false ∧ W.frozen? ⟨b, 1, none⟩ = false ∧ W.frozen? ⟨b, 2, none⟩ = false ∧ W.frozen? ⟨b, 3, none⟩ = false ∧ W.frozen? ⟨b, 4, none⟩ = false ∧ W.frozen? ⟨b, 5, none⟩ = false ∧ W.frozen? ⟨b, 6, none⟩ = false ∧ W.frozen? ⟨b, 7, none⟩ = false := ⟨(h.2 0 (by simp)).2, (h.2 1 (by simp)).2, (h.2 2 (by simp)).2, (h.2 3 (by simp)).2, (h.2 4 (by simp)).2, (h.2 5 (by simp)).2, (h.2 6 (by simp)).2, (h.2 7 (by simp)).2⟩
theorem Bk.a9 {W : World} {b : Nat} {v0 v1 v2 v3 v4 v5 v6 v7 v8 : Value} (h : Bk W b [v0, v1, v2, v3, v4, v5, v6, v7, v8]) : W.cell? ⟨b, 0, none⟩ = some v0 ∧ W.cell? ⟨b, 1, none⟩ = some v1 ∧ W.cell? ⟨b, 2, none⟩ = some v2 ∧ W.cell? ⟨b, 3, none⟩ = some v3 ∧ W.cell? ⟨b, 4, none⟩ = some v4 ∧ W.cell? ⟨b, 5, none⟩ = some v5 ∧ W.cell? ⟨b, 6, none⟩ = some v6 ∧ W.cell? ⟨b, 7, none⟩ = some v7 ∧ W.cell? ⟨b, 8, none⟩ = some v8 := ⟨(h.2 0 (by simp)).1, (h.2 1 (by simp)).1, (h.2 2 (by simp)).1, (h.2 3 (by simp)).1, (h.2 4 (by simp)).1, (h.2 5 (by simp)).1, (h.2 6 (by simp)).1, (h.2 7 (by simp)).1, (h.2 8 (by simp)).1⟩
theorem Bk.f9 {W : World} {b : Nat} {v0 v1 v2 v3 v4 v5 v6 v7 v8 : Value} (h : Bk W b [v0, v1, v2, v3, v4, v5, v6, v7, v8]) : W.frozen? ⟨b, 0, none⟩ = false ∧ W.frozen? ⟨b, 1, none⟩ = false ∧ W.frozen? ⟨b, 2, none⟩ = false ∧ W.frozen? ⟨b, 3, none⟩ = false ∧ W.frozen? ⟨b, 4, none⟩ = false ∧ W.frozen? ⟨b, 5, none⟩ = false ∧ W.frozen? ⟨b, 6, none⟩ = false ∧ W.frozen? ⟨b, 7, none⟩ = false ∧ W.frozen? ⟨b, 8, none⟩ = false := ⟨(h.2 0 (by simp)).2, (h.2 1 (by simp)).2, (h.2 2 (by simp)).2, (h.2 3 (by simp)).2, (h.2 4 (by simp)).2, (h.2 5 (by simp)).2, (h.2 6 (by simp)).2, (h.2 7 (by simp)).2, (h.2 8 (by simp)).2⟩
theorem Bk.a10 {W : World} {b : Nat} {v0 v1 v2 v3 v4 v5 v6 v7 v8 v9 : Value} (h : Bk W b [v0, v1, v2, v3, v4, v5, v6, v7, v8, v9]) : W.cell? ⟨b, 0, none⟩ = some v0 ∧ W.cell? ⟨b, 1, none⟩ = some v1 ∧ W.cell? ⟨b, 2, none⟩ = some v2 ∧ W.cell? ⟨b, 3, none⟩ = some v3 ∧ W.cell? ⟨b, 4, none⟩ = some v4 ∧ W.cell? ⟨b, 5, none⟩ = some v5 ∧ W.cell? ⟨b, 6, none⟩ = some v6 ∧ W.cell? ⟨b, 7, none⟩ = some v7 ∧ W.cell? ⟨b, 8, none⟩ = some v8 ∧ W.cell? ⟨b, 9, none⟩ = some v9 := ⟨(h.2 0 (by simp)).1, (h.2 1 (by simp)).1, (h.2 2 (by simp)).1, (h.2 3 (by simp)).1, (h.2 4 (by simp)).1, (h.2 5 (by simp)).1, (h.2 6 (by simp)).1, (h.2 7 (by simp)).1, (h.2 8 (by simp)).1, (h.2 9 (by simp)).1⟩
theorem Bk.f10 {W : World} {b : Nat} {v0 v1 v2 v3 v4 v5 v6 v7 v8 v9 : Value} (h : Bk W b [v0, v1, v2, v3, v4, v5, v6, v7, v8, v9]) : W.frozen? ⟨b, 0, none⟩ = false ∧ W.frozen? ⟨b, 1, none⟩ = false ∧ W.frozen? ⟨b, 2, none⟩ = false ∧ W.frozen? ⟨b, 3, none⟩ = false ∧ W.frozen? ⟨b, 4, none⟩ = false ∧ W.frozen? ⟨b, 5, none⟩ = false ∧ W.frozen? ⟨b, 6, none⟩ = false ∧ W.frozen? ⟨b, 7, none⟩ = false ∧ W.frozen? ⟨b, 8, none⟩ = false ∧ W.frozen? ⟨b, 9, none⟩ = false := ⟨(h.2 0 (by simp)).2, (h.2 1 (by simp)).2, (h.2 2 (by simp)).2, (h.2 3 (by simp)).2, (h.2 4 (by simp)).2, (h.2 5 (by simp)).2, (h.2 6 (by simp)).2, (h.2 7 (by simp)).2, (h.2 8 (by simp)).2, (h.2 9 (by simp)).2⟩
theorem Bk.a25 {W : World} {b : Nat} {v0 v1 v2 v3 v4 v5 v6 v7 v8 v9 v10 v11 v12 v13 v14 v15 v16 v17 v18 v19 v20 v21 v22 v23 v24 : Value} (h : Bk W b [v0, v1, v2, v3, v4, v5, v6, v7, v8, v9, v10, v11, v12, v13, v14, v15, v16, v17, v18, v19, v20, v21, v22, v23, v24]) : W.cell? ⟨b, 0, none⟩ = some v0 ∧ W.cell? ⟨b, 1, none⟩ = some v1 ∧ W.cell? ⟨b, 2, none⟩ = some v2 ∧ W.cell? ⟨b, 3, none⟩ = some v3 ∧ W.cell? ⟨b, 4, none⟩ = some v4 ∧ W.cell? ⟨b, 5, none⟩ = some v5 ∧ W.cell? ⟨b, 6, none⟩ = some v6 ∧ W.cell? ⟨b, 7, none⟩ = some v7 ∧ W.cell? ⟨b, 8, none⟩ = some v8 ∧ W.cell? ⟨b, 9, none⟩ = some v9 ∧ W.cell? ⟨b, 10, none⟩ = some v10 ∧ W.cell? ⟨b, 11, none⟩ = some v11 ∧ W.cell? ⟨b, 12, none⟩ = some v12 ∧ W.cell? ⟨b, 13, none⟩ = some v13 ∧ W.cell? ⟨b, 14, none⟩ = some v14 ∧ W.cell? ⟨b, 15, none⟩ = some v15 ∧ W.cell? ⟨b, 16, none⟩ = some v16 ∧ W.cell? ⟨b, 17, none⟩ = some v17 ∧ W.cell? ⟨b, 18, none⟩ = some v18 ∧ W.cell? ⟨b, 19, none⟩ = some v19 ∧ W.cell? ⟨b, 20, none⟩ = some v20 ∧ W.cell? ⟨b, 21, none⟩ = some v21 ∧ W.cell? ⟨b, 22, none⟩ = some v22 ∧ W.cell? ⟨b, 23, none⟩ = some v23 ∧ W.cell? ⟨b, 24, none⟩ = some v24 := ⟨(h.2 0 (by simp)).1, (h.2 1 (by simp)).1, (h.2 2 (by simp)).1, (h.2 3 (by simp)).1, (h.2 4 (by simp)).1, (h.2 5 (by simp)).1, (h.2 6 (by simp)).1, (h.2 7 (by simp)).1, (h.2 8 (by simp)).1, (h.2 9 (by simp)).1, (h.2 10 (by simp)).1, (h.2 11 (by simp)).1, (h.2 12 (by simp)).1, (h.2 13 (by simp)).1, (h.2 14 (by simp)).1, (h.2 15 (by simp)).1, (h.2 16 (by simp)).1, (h.2 17 (by simp)).1, (h.2 18 (by simp)).1, (h.2 19 (by simp)).1, (h.2 20 (by simp)).1, (h.2 21 (by simp)).1, (h.2 22 (by simp)).1, (h.2 23 (by simp)).1, (h.2 24 (by simp)).1⟩
theorem Bk.f25 {W : World} {b : Nat} {v0 v1 v2 v3 v4 v5 v6 v7 v8 v9 v10 v11 v12 v13 v14 v15 v16 v17 v18 v19 v20 v21 v22 v23 v24 : Value} (h : Bk W b [v0, v1, v2, v3, v4, v5, v6, v7, v8, v9, v10, v11, v12, v13, v14, v15, v16, v17, v18, v19, v20, v21, v22, v23, v24]) : W.frozen? ⟨b, 0, none⟩ = false ∧ W.frozen? ⟨b, 1, none⟩ = false ∧ W.frozen? ⟨b, 2, none⟩ = false ∧ W.frozen? ⟨b, 3, none⟩ = false ∧ W.frozen? ⟨b, 4, none⟩ = false ∧ W.frozen? ⟨b, 5, none⟩ = false ∧ W.frozen? ⟨b, 6, none⟩ = false ∧ W.frozen? ⟨b, 7, none⟩ = false ∧ W.frozen? ⟨b, 8, none⟩ = false ∧ W.frozen? ⟨b, 9, none⟩ = false ∧ W.frozen? ⟨b, 10, none⟩ = false ∧ W.frozen? ⟨b, 11, none⟩ = false ∧ W.frozen? ⟨b, 12, none⟩ = false ∧ W.frozen? ⟨b, 13, none⟩ = false ∧ W.frozen? ⟨b, 14, none⟩ = false ∧ W.frozen? ⟨b, 15, none⟩ = false ∧ W.frozen? ⟨b, 16, none⟩ = false ∧ W.frozen? ⟨b, 17, none⟩ = false ∧ W.frozen? ⟨b, 18, none⟩ = false ∧ W.frozen? ⟨b, 19, none⟩ = false ∧ W.frozen? ⟨b, 20, none⟩ = false ∧ W.frozen? ⟨b, 21, none⟩ = false ∧ W.frozen? ⟨b, 22, none⟩ = false ∧ W.frozen? ⟨b, 23, none⟩ = false ∧ W.frozen? ⟨b, 24, none⟩ = false := ⟨(h.2 0 (by simp)).2, (h.2 1 (by simp)).2, (h.2 2 (by simp)).2, (h.2 3 (by simp)).2, (h.2 4 (by simp)).2, (h.2 5 (by simp)).2, (h.2 6 (by simp)).2, (h.2 7 (by simp)).2, (h.2 8 (by simp)).2, (h.2 9 (by simp)).2, (h.2 10 (by simp)).2, (h.2 11 (by simp)).2, (h.2 12 (by simp)).2, (h.2 13 (by simp)).2, (h.2 14 (by simp)).2, (h.2 15 (by simp)).2, (h.2 16 (by simp)).2, (h.2 17 (by simp)).2, (h.2 18 (by simp)).2, (h.2 19 (by simp)).2, (h.2 20 (by simp)).2, (h.2 21 (by simp)).2, (h.2 22 (by simp)).2, (h.2 23 (by simp)).2, (h.2 24 (by simp)).2⟩
theorem Bk.below {W W' : World} {b : Nat} {l : List Value} (h : Bk W b l) (k : Below W.heap.size W W') : Bk W' b l := ⟨Nat.lt_of_lt_of_le h.1 k.size, fun i hi => by
  rw [k.cell (p := ⟨b, i, none⟩) h.1, k.frozen (p := ⟨b, i, none⟩) h.1]; exact h.2 i hi⟩
theorem Bk.far {W : World} {b g j : Nat} {l : List Value} {v : Value} (h : Bk W b l) (hn : ¬ g = b) : Bk (W.setCell ⟨g, j, none⟩ v) b l := ⟨by rw [set_size]; exact h.1, fun i hi => by
  rw [set_out (fun e => hn e.1), set_frozen]; exact h.2 i hi⟩
theorem Bk.set {W : World} {b j : Nat} {l : List Value} {v : Value} (h : Bk W b l) (hj : j < l.length) : Bk (W.setCell ⟨b, j, none⟩ v) b (l.set j v) := ⟨by rw [set_size]; exact h.1, fun i hi => by
  rw [List.length_set] at hi
  rw [set_frozen]
  refine ⟨?_, (h.2 i hi).2⟩
  by_cases e : j = i
  · subst e
    rw [set_in (by rw [(h.2 j hj).1]; rfl)]
    simp [List.getD, hj]
  · rw [set_out (fun k => e k.2), (h.2 i hi).1]
    simp [List.getD, e]⟩
theorem bk_new (W : World) (t : TypeId) (l : List Value) : Bk (W.alloc (.cells l.toArray t)) W.heap.size l := ⟨by simp, fun i hi => by
  have e : l.getD i undef = l[i] := by simp [List.getD, List.getElem?_eq_getElem hi]
  rw [e]
  exact ⟨by simp [hi], by simp⟩⟩
theorem Bk.sm {W W' : World} {b : Nat} {l : List Value} (h : Bk W b l) (hz : W.heap.size ≤ W'.heap.size) (k : Sm W W' b) : Bk W' b l :=
  ⟨Nat.lt_of_lt_of_le h.1 hz, fun i hi => by rw [(k i).1, (k i).2]; exact h.2 i hi⟩
def putL (b : Nat) : List Value → Nat → World → World
  | [], _, W => W
  | v :: l, k, W => putL b l (k + 1) (W.setCell ⟨b, k, none⟩ v)
theorem size_put (b : Nat) : ∀ (l : List Value) (k : Nat) (W : World), (putL b l k W).heap.size = W.heap.size
  | [], _, _ => rfl
  | v :: l, k, W => by rw [putL, size_put b l, set_size]
theorem sm_put {b c : Nat} (h : ¬ c = b) : ∀ (l : List Value) (k : Nat) (W : World), Sm W (putL b l k W) c
  | [], _, W => Sm.refl W c
  | v :: l, k, W => Sm.trans (fun o => ⟨set_out (fun e => h e.1.symm), set_frozen⟩) (sm_put h l (k + 1) _)
theorem below_put {n b : Nat} {A : World} (h : n ≤ b) : ∀ (l : List Value) (k : Nat) {W : World}, Below n A W → Below n A (putL b l k W)
  | [], _, _, hb => hb
  | v :: l, k, W, hb => below_put h l (k + 1) (hb.setCell h v)
theorem cell_put {b : Nat} : ∀ (l : List Value) (k : Nat) (W : World), (∀ i, i < l.length → (W.cell? ⟨b, k + i, none⟩).isSome = true) → ∀ i, i < l.length → (putL b l k W).cell? ⟨b, k + i, none⟩ = some (l.getD i undef)
  | [], _, _, _, i, hi => absurd hi (by simp)
  | v :: l, k, W, h, i, hi => by
    rw [putL]
    have h0 : ∀ (l : List Value) (m : Nat) (W : World) (j : Nat), j < m → (putL b l m W).cell? ⟨b, j, none⟩ = W.cell? ⟨b, j, none⟩ := by
      intro l
      induction l with
      | nil => intro m W j _; rfl
      | cons u l ih => intro m W j hj; rw [putL, ih (m + 1) _ j (by omega), set_out (by omega)]
    by_cases e : i = 0
    · subst e
      show (putL b l (k + 1) (W.setCell ⟨b, k, none⟩ v)).cell? ⟨b, k, none⟩ = _
      rw [h0 l (k + 1) _ k (by omega), set_in (by simpa using h 0 (by simp))]
      rfl
    · obtain ⟨i, rfl⟩ : ∃ j, i = j + 1 := ⟨i - 1, by omega⟩
      have := cell_put l (k + 1) (W.setCell ⟨b, k, none⟩ v) (fun j hj => by
        rw [set_out (by omega), show k + 1 + j = k + (j + 1) by omega]; exact h (j + 1) (by simpa using hj)) i (by simpa using hi)
      rw [show k + (i + 1) = k + 1 + i by omega, this]
      rfl
theorem frozen_put {b c o : Nat} : ∀ (l : List Value) (k : Nat) (W : World), (putL b l k W).frozen? ⟨c, o, none⟩ = W.frozen? ⟨c, o, none⟩
  | [], _, _ => rfl
  | v :: l, k, W => by rw [putL, frozen_put l, set_frozen]
theorem bk_put {W : World} {b : Nat} {l l' : List Value} (h : Bk W b l') (hl : l.length = l'.length) : Bk (putL b l 0 W) b l :=
  ⟨by rw [size_put]; exact h.1, fun i hi => by
    have := cell_put l 0 W (fun j hj => by rw [Nat.zero_add, (h.2 j (by omega)).1]; rfl) i hi
    rw [Nat.zero_add] at this
    exact ⟨this, by rw [frozen_put]; exact (h.2 i (by omega)).2⟩⟩
end Go.Proofs.YtgjapdjidighlabGreat
