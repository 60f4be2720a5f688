/- Small facts for walks that draw: numbers that are small, blocks of five cells; no Go text in sight; conditions: those typed. -/
import Derived.Test.YtmccbbanganjlaaDoorWalks1
import Derived.Test.YtmccbbanganjlaaDoorDraw2
import Derived.Test.YtmccbbanganjlaaDoorInv
import Derived.Deep.DeepCutAuto
namespace Go.Proofs.YtmccbbanganjlaaDoor
open Go.RowKit
set_option linter.unusedVariables false

/-- A number that fits in any bound asked for. -/
def Small (z : Int) : Prop := -100000 ≤ z ∧ z ≤ 100000

theorem pick_small {n x : Int} (h : PickOut n x) (hn : n ≤ 100000) : Small x := by
  obtain ⟨a1, a2, a3⟩ := h
  unfold Small
  by_cases h : 1 ≤ n
  · have := a2 h; omega
  · have := a3 (by omega); omega
theorem lits_small (zs : List Int) (h : ∀ z ∈ zs, -100000 ≤ z ∧ z ≤ 100000) {k : Nat} : Small (zs.getD k 0) := by
  by_cases hk : k < zs.length
  · rw [show zs.getD k 0 = zs[k] by simp [List.getD, hk]]
    exact h _ (List.getElem_mem hk)
  · rw [show zs.getD k 0 = 0 by simp [List.getD, hk]]
    exact ⟨by decide, by decide⟩
theorem RdB.more {w : World} {r : Nat} {a : Option Addr} {len cap : Nat} {m m' : Int} (h : RdB w r a len cap m) (hm : m ≤ m') : RdB w r a len cap m' := by
  obtain ⟨p, h0, h1, h⟩ := h; exact ⟨p, h0, by omega, h⟩
/-- Five cells of a block that may be written. -/
def Wr5 (w : World) (b : Nat) : Prop := ∀ j, j < 5 → ∃ v, w.cell? ⟨b, j, none⟩ = some v ∧ w.frozen? ⟨b, j, none⟩ = false
theorem Wr5.kept {r : Nat} {w w' : World} {b : Nat} (h : Wr5 w b) (K : Kept r w w') (hn : ¬ b = r) : Wr5 w' b := by
  intro j hj
  obtain ⟨v, h1, h2⟩ := h j hj
  have hlt := cell_lt h1
  exact ⟨v, ((kcell K).1 b j hlt hn).trans h1, ((kcell K).2 b j hlt hn).trans h2⟩
/-- Block g is as it was. -/
def Stay (g : Nat) (w w' : World) : Prop := w.heap.size ≤ w'.heap.size ∧ ∀ o, w'.cell? ⟨g, o, none⟩ = w.cell? ⟨g, o, none⟩
theorem Kept.stay {r g : Nat} {w w' : World} (h : Kept r w w') (hl : g < w.heap.size) (hn : ¬ g = r) : Stay g w w' := ⟨h.size, fun o => (kcell h).1 g o hl hn⟩
theorem Lits.stay {g : Nat} {w w' : World} {zs : List Int} (h : Lits w g zs) (k : Stay g w w') : Lits w' g zs := ⟨Nat.lt_of_lt_of_le h.1 k.1, fun u h0 h1 => (k.2 _).trans (h.2 u h0 h1)⟩
/-- Five cells written. -/
def put5c (w : World) (b : Nat) (x0 x1 x2 x3 x4 : Value) : World :=
  ((((w.setCell ⟨b, 0, none⟩ x0).setCell ⟨b, 1, none⟩ x1).setCell ⟨b, 2, none⟩ x2).setCell ⟨b, 3, none⟩ x3).setCell ⟨b, 4, none⟩ x4
theorem below_put5c {B : Nat} {a w : World} (h : Below B a w) {b : Nat} (hb : B ≤ b) (x0 x1 x2 x3 x4 : Value) : Below B a (put5c w b x0 x1 x2 x3 x4) :=
  ((((h.setCell (p := ⟨b, 0, none⟩) hb _).setCell (p := ⟨b, 1, none⟩) hb _).setCell (p := ⟨b, 2, none⟩) hb _).setCell (p := ⟨b, 3, none⟩) hb _).setCell (p := ⟨b, 4, none⟩) hb _
theorem RdB.p5 {w : World} {r : Nat} {a : Option Addr} {len cap : Nat} {m : Int} (h : RdB w r a len cap m) {b : Nat} (hb : r < b) (x0 x1 x2 x3 x4 : Value) : RdB (put5c w b x0 x1 x2 x3 x4) r a len cap m := by
  obtain ⟨p, h0, h1, h⟩ := h
  exact ⟨p, h0, h1, h.below (below_put5c (Below.refl _ _) hb _ _ _ _ _)⟩
theorem Kept.p5 {r : Nat} {a w : World} (h : Kept r a w) {b : Nat} (hb : a.heap.size ≤ b) (x0 x1 x2 x3 x4 : Value) : Kept r a (put5c w b x0 x1 x2 x3 x4) :=
  ((((h.setCell (q := ⟨b, 0, none⟩) (.inl hb) _).setCell (q := ⟨b, 1, none⟩) (.inl hb) _).setCell (q := ⟨b, 2, none⟩) (.inl hb) _).setCell (q := ⟨b, 3, none⟩) (.inl hb) _).setCell (q := ⟨b, 4, none⟩) (.inl hb) _
/-- Block b begins with these five numbers. -/
def Five (w : World) (b : Nat) (z0 z1 z2 z3 z4 : Int) : Prop :=
  w.cell? ⟨b, 0, none⟩ = some (.int .i64 z0) ∧ w.cell? ⟨b, 1, none⟩ = some (.int .i64 z1) ∧ w.cell? ⟨b, 2, none⟩ = some (.int .i64 z2) ∧ w.cell? ⟨b, 3, none⟩ = some (.int .i64 z3) ∧ w.cell? ⟨b, 4, none⟩ = some (.int .i64 z4)
theorem Five.stay {w w' : World} {b : Nat} {z0 z1 z2 z3 z4 : Int} (h : Five w b z0 z1 z2 z3 z4) (k : Stay b w w') : Five w' b z0 z1 z2 z3 z4 := by
  unfold Five
  rw [k.2, k.2, k.2, k.2, k.2]
  exact h
theorem stay5 {w : World} {g b : Nat} (h : ¬ g = b) (x0 x1 x2 x3 x4 : Value) : Stay g w (put5c w b x0 x1 x2 x3 x4) := by
  refine ⟨by simp [put5c, World.setCell], fun o => ?_⟩
  have far : ∀ (o' : Nat) (W : World) (z : Value), (W.setCell ⟨b, o', none⟩ z).cell? ⟨g, o, none⟩ = W.cell? ⟨g, o, none⟩ := fun o' W z => World.cell?_setCell_other _ _ _ _ (by intro e; exact h (by injection e with e1; exact e1.symm))
  unfold put5c
  rw [far, far, far, far, far]
theorem put5c_cells {w : World} {b : Nat} (h : Wr5 w b) (x0 x1 x2 x3 x4 : Value) : (put5c w b x0 x1 x2 x3 x4).cell? ⟨b, 0, none⟩ = some x0 ∧ (put5c w b x0 x1 x2 x3 x4).cell? ⟨b, 1, none⟩ = some x1 ∧ (put5c w b x0 x1 x2 x3 x4).cell? ⟨b, 2, none⟩ = some x2 ∧ (put5c w b x0 x1 x2 x3 x4).cell? ⟨b, 3, none⟩ = some x3 ∧ (put5c w b x0 x1 x2 x3 x4).cell? ⟨b, 4, none⟩ = some x4 := by
  have e : put5c w b x0 x1 x2 x3 x4 = w.setCells b 0 [x0, x1, x2, x3, x4] := rfl
  have g := World.cell?_setCells_in b [x0, x1, x2, x3, x4] 0 w (fun j hj => by
    obtain ⟨v, h1, _⟩ := h j (by simpa using hj)
    rw [Nat.zero_add, h1]; rfl)
  rw [e]
  exact ⟨g 0 (by simp), g 1 (by simp), g 2 (by simp), g 3 (by simp), g 4 (by simp)⟩
theorem five_set {w : World} {b : Nat} (h : Wr5 w b) (z0 z1 z2 z3 z4 : Int) : Five (put5c w b (.int .i64 z0) (.int .i64 z1) (.int .i64 z2) (.int .i64 z3) (.int .i64 z4)) b z0 z1 z2 z3 z4 := put5c_cells h _ _ _ _ _
theorem Wr5.p5 {w : World} {b : Nat} (h : Wr5 w b) (x0 x1 x2 x3 x4 : Value) : Wr5 (put5c w b x0 x1 x2 x3 x4) b := by
  have hc := put5c_cells h x0 x1 x2 x3 x4
  have hfr : ∀ j, (put5c w b x0 x1 x2 x3 x4).frozen? ⟨b, j, none⟩ = w.frozen? ⟨b, j, none⟩ := fun j => by
    unfold put5c
    rw [World.frozen?_setCell, World.frozen?_setCell, World.frozen?_setCell, World.frozen?_setCell, World.frozen?_setCell]
  generalize put5c w b x0 x1 x2 x3 x4 = W at hc hfr ⊢
  obtain ⟨g0, g1, g2, g3, g4⟩ := hc
  intro j hj
  obtain ⟨v, _, hf⟩ := h j hj
  rw [hfr j]
  have : j = 0 ∨ j = 1 ∨ j = 2 ∨ j = 3 ∨ j = 4 := by omega
  rcases this with rfl | rfl | rfl | rfl | rfl
  · exact ⟨_, g0, hf⟩
  · exact ⟨_, g1, hf⟩
  · exact ⟨_, g2, hf⟩
  · exact ⟨_, g3, hf⟩
  · exact ⟨_, g4, hf⟩

end Go.Proofs.YtmccbbanganjlaaDoor
