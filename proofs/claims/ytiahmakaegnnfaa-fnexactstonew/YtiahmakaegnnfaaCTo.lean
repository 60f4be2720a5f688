/- Copies of cells, as the laws make them: the copy holds what was there, in memory of its own; conditions: the cell lies in memory. -/
import Derived.Test.YtiahmakaegnnfaaCSz
import Derived.Test.YtiahmakaegnnfaaLaw
import Derived.Test.YtiahmakaegnnfaaLaw8
namespace Go.Proofs.Ytiahmakaegnnfaa
open Go.RowKit Go.Deep
set_option linter.unusedVariables false

theorem set_in {w : World} {B k : Nat} {u : Value} (h : (w.cell? ⟨B, k, none⟩).isSome = true) : (w.setCell ⟨B, k, none⟩ u).cell? ⟨B, k, none⟩ = some u := by
  have := World.cell?_setCells_in B [u] k w (fun j hj => by
    have : j = 0 := by simpa using hj
    subst this; exact h) 0 (by simp)
  rw [show w.setCell ⟨B, k, none⟩ u = w.setCells B k [u] from rfl]
  simpa using this
theorem set_out {w : World} {B k b i : Nat} {u : Value} (h : ¬ (B = b ∧ k = i)) : (w.setCell ⟨B, k, none⟩ u).cell? ⟨b, i, none⟩ = w.cell? ⟨b, i, none⟩ :=
  World.cell?_setCell_other _ _ _ _ (by intro e; injection e with e1 e2; exact h ⟨e1, e2⟩)
theorem set_frozen {w : World} {B k b i : Nat} {u : Value} : (w.setCell ⟨B, k, none⟩ u).frozen? ⟨b, i, none⟩ = w.frozen? ⟨b, i, none⟩ := World.frozen?_setCell ..
theorem set_size {w : World} {B k : Nat} {u : Value} : (w.setCell ⟨B, k, none⟩ u).heap.size = w.heap.size := by simp [World.setCell]

/-- Block B of w is a row of n integers of the call's own, of which the first k are X's. -/
def Own1 (w : World) (B n : Nat) (X : Nat → Int) (k : Nat) : Prop :=
  (∀ i, i < n → (w.cell? ⟨B, i, none⟩).isSome = true ∧ w.frozen? ⟨B, i, none⟩ = false) ∧ ∀ j, j < k → w.cell? ⟨B, j, none⟩ = some (.int .i64 (X j))

theorem own1_next {w : World} {B n k : Nat} {X : Nat → Int} (h : Own1 w B n X k) (hk : k < n) : Own1 (w.setCell ⟨B, k, none⟩ (.int .i64 (X k))) B n X (k + 1) := by
  refine ⟨fun i hi => ⟨?_, ?_⟩, fun j hj => ?_⟩
  · by_cases hc : k = i
    · subst hc; rw [set_in (h.1 k hk).1]; rfl
    · rw [set_out (fun e => hc e.2)]; exact (h.1 i hi).1
  · rw [set_frozen]; exact (h.1 i hi).2
  · by_cases hc : k = j
    · subst hc; exact set_in (h.1 k hk).1
    · rw [set_out (fun e => hc e.2)]; exact h.2 j (by omega)

theorem own1_below {w w' : World} {B n k : Nat} {X : Nat → Int} (h : Own1 w B n X k) (hB : B < w.heap.size) (hb : Below w.heap.size w w') : Own1 w' B n X k :=
  ⟨fun i hi => by rw [hb.cell (p := ⟨B, i, none⟩) hB, hb.frozen (p := ⟨B, i, none⟩) hB]; exact h.1 i hi, fun j hj => by rw [hb.cell (p := ⟨B, j, none⟩) hB]; exact h.2 j hj⟩

theorem Try.info3 : (Try.prog.info? 3).map (fun i => (i.zero, i.size, i.bytes)) = some (some (.int .i64 0), 1, 8) := by kernel_rfl
theorem Try.info97 : (Try.prog.info? 97).map (fun i => (i.zero, i.size, i.bytes)) = some (some (.slice none 0 0), 1, 24) := by kernel_rfl

theorem make1 (n : Nat) (hn : n ≤ 1048576) (w : World) :
    (Instr.makeSlice 47 (.int .i64 (n : Int)) (.int .i64 (n : Int))).run Try.prog w = .ok (.slice (some ⟨w.heap.size, 0, none⟩) n n) (w.alloc (.cells (madeCells #[.int .i64 0] (n * 1)) 3)) := by
  obtain ⟨i, hi, hzz⟩ := Option.map_eq_some_iff.1 Try.info3
  simp only [Prod.mk.injEq] at hzz
  obtain ⟨hz, hs, hb⟩ := hzz
  have := run_make (P := Try.prog) w 47 3 i _ Try.underlying47 hi hz .i64 .i64 n n (by omega) (by omega) (by rw [hb]; omega) (by omega)
  rw [this, hs]
  rfl

theorem makeO (n : Nat) (hn : n ≤ 1048576) (w : World) :
    (Instr.makeSlice 46 (.int .i64 (n : Int)) (.int .i64 (n : Int))).run Try.prog w = .ok (.slice (some ⟨w.heap.size, 0, none⟩) n n) (w.alloc (.cells (madeCells #[.slice none 0 0] (n * 1)) 97)) := by
  obtain ⟨i, hi, hzz⟩ := Option.map_eq_some_iff.1 Try.info97
  simp only [Prod.mk.injEq] at hzz
  obtain ⟨hz, hs, hb⟩ := hzz
  have := run_make (P := Try.prog) w 46 97 i _ Try.underlying46 hi hz .i64 .i64 n n (by omega) (by omega) (by rw [hb]; omega) (by omega)
  rw [this, hs]
  rfl

theorem toWalkers (a : Option Addr) (n cap : Nat) (Z : Nat → Nat → Int) (hn : n ≤ 1048576) (w : World) (h : Row5 w a n Z) :
    Calls Try.prog 12 #[.slice a n cap] w fun e w' => e = .returned (.slice (some ⟨w.heap.size, 0, none⟩) n n) ∧ Own5 w' w.heap.size n Z n ∧ w.heap.size < w'.heap.size ∧ Below w.heap.size w w' := by
  rcases h with rfl | ⟨b, o, rfl, hb, hr⟩
  · exact toList0 a cap Z w
  · exact toList b o n cap Z hn w hb hr

theorem own8_set {w : World} {B g n k j : Nat} {Z : Nat → Nat → Int} {u : Value} (h : P8.Own8 w g n Z k) (hne : ¬ B = g) : P8.Own8 (w.setCell ⟨B, j, none⟩ u) g n Z k :=
  ⟨fun i hi => by rw [set_out (fun e => hne e.1), set_frozen]; exact h.1 i hi, fun k' j' hk hj => by rw [set_out (fun e => hne e.1)]; exact h.2 k' j' hk hj⟩

/-- Block B of w is a row of n lists of parcels of the call's own, of which the first k hold O's, each in a later block than the one ahead. -/
def OwnO (w : World) (B n : Nat) (N : Nat → Nat) (O : Nat → Nat → Nat → Int) (k : Nat) : Prop :=
  (∀ i, i < n → (w.cell? ⟨B, i, none⟩).isSome = true ∧ w.frozen? ⟨B, i, none⟩ = false) ∧
    ∃ xs : Nat → Nat, (∀ i j, i < j → j < k → xs i < xs j) ∧ ∀ j, j < k → B < xs j ∧ xs j < w.heap.size ∧ w.cell? ⟨B, j, none⟩ = some (.slice (some ⟨xs j, 0, none⟩) (N j) (N j)) ∧ P8.Own8 w (xs j) (N j) (O j) (N j)

theorem ownO_below {w w' : World} {B n k : Nat} {N : Nat → Nat} {O : Nat → Nat → Nat → Int} (h : OwnO w B n N O k) (hB : B < w.heap.size) (hb : Below w.heap.size w w') : OwnO w' B n N O k := by
  obtain ⟨h1, xs, h2, h3⟩ := h
  refine ⟨fun i hi => by rw [hb.cell (p := ⟨B, i, none⟩) hB, hb.frozen (p := ⟨B, i, none⟩) hB]; exact h1 i hi, xs, h2, fun j hj => ?_⟩
  obtain ⟨a1, a2, a3, a4⟩ := h3 j hj
  exact ⟨a1, Nat.lt_of_lt_of_le a2 hb.size, (hb.cell (p := ⟨B, j, none⟩) hB).trans a3, P8.own_below a4 a2 hb⟩

/-- v is a copy of a cell, of V, in memory of its own from block lo on: block by block. -/
def CopyAt (lo : Nat) (w : World) (v : Value) (V : CV) : Prop :=
  ∃ bW bO bX bI, lo ≤ bW ∧ bW < bO ∧ bO < bX ∧ bX < bI ∧ bI < w.heap.size ∧
    v = .agg #[.int .i64 V.c, .slice (some ⟨bW, 0, none⟩) V.nW V.nW, .int .i64 V.g, .slice (some ⟨bO, 0, none⟩) V.nO V.nO, .slice (some ⟨bX, 0, none⟩) V.nX V.nX, .slice (some ⟨bI, 0, none⟩) V.nI V.nI] ∧
    Own5 w bW V.nW V.W V.nW ∧ OwnO w bO V.nO V.N V.O V.nO ∧ Own1 w bX V.nX V.X V.nX ∧ Own1 w bI V.nI V.I V.nI

theorem row1_of_own {w : World} {B n : Nat} {X : Nat → Int} (h : Own1 w B n X n) (hB : B < w.heap.size) : Row1 w (some ⟨B, 0, none⟩) n X :=
  .inr ⟨B, 0, rfl, hB, fun k hk => by rw [Nat.zero_add]; exact h.2 k hk⟩
theorem row5_of_own {w : World} {B n : Nat} {Z : Nat → Nat → Int} (h : Own5 w B n Z n) (hB : B < w.heap.size) : Row5 w (some ⟨B, 0, none⟩) n Z :=
  .inr ⟨B, 0, rfl, hB, own_row h⟩
theorem row8_of_own {w : World} {B n : Nat} {Z : Nat → Nat → Int} (h : P8.Own8 w B n Z n) (hB : B < w.heap.size) : P8.Row8 w (some ⟨B, 0, none⟩) n Z :=
  .inr ⟨B, 0, rfl, hB, P8.own_row h⟩
theorem rowO_of_own {w : World} {B n : Nat} {N : Nat → Nat} {O : Nat → Nat → Nat → Int} (h : OwnO w B n N O n) (hB : B < w.heap.size) : RowO w (some ⟨B, 0, none⟩) n N O := by
  obtain ⟨_, xs, _, h3⟩ := h
  refine .inr ⟨B, 0, rfl, hB, fun k hk => ?_⟩
  obtain ⟨_, a2, a3, a4⟩ := h3 k hk
  exact ⟨_, _, by rw [Nat.zero_add]; exact a3, row8_of_own a4 a2⟩
theorem CopyAt.at {lo : Nat} {w : World} {v : Value} {V : CV} (h : CopyAt lo w v V) : CellAt w v V := by
  obtain ⟨bW, bO, bX, bI, h0, h1, h2, h3, h4, rfl, g1, g2, g3, g4⟩ := h
  exact ⟨_, _, _, _, _, _, _, _, rfl, row5_of_own g1 (by omega), rowO_of_own g2 (by omega), row1_of_own g3 (by omega), row1_of_own g4 (by omega)⟩
theorem CopyAt.below {lo : Nat} {w w' : World} {v : Value} {V : CV} (h : CopyAt lo w v V) (hb : Below w.heap.size w w') : CopyAt lo w' v V := by
  obtain ⟨bW, bO, bX, bI, h0, h1, h2, h3, h4, rfl, g1, g2, g3, g4⟩ := h
  exact ⟨bW, bO, bX, bI, h0, h1, h2, h3, Nat.lt_of_lt_of_le h4 hb.size, rfl, own_below g1 (by omega) hb, ownO_below g2 (by omega) hb, own1_below g3 (by omega) hb, own1_below g4 (by omega) hb⟩

/-- Block b of W begins with these six values, and may be written. -/
def Six (W : World) (b : Nat) (l : List Value) : Prop := ∀ i, i < 6 → W.cell? ⟨b, i, none⟩ = some (l.getD i undef) ∧ W.frozen? ⟨b, i, none⟩ = false
theorem Six.below {W W' : World} {b : Nat} {l : List Value} (h : Six W b l) (hb : b < W.heap.size) (k : Below W.heap.size W W') : Six W' b l := fun i hi => by
  rw [k.cell (p := ⟨b, i, none⟩) hb, k.frozen (p := ⟨b, i, none⟩) hb]; exact h i hi
theorem Six.far {W : World} {b g j : Nat} {l : List Value} {v : Value} (h : Six W b l) (hn : ¬ g = b) : Six (W.setCell ⟨g, j, none⟩ v) b l := fun i hi => by
  rw [set_out (fun e => hn e.1), set_frozen]; exact h i hi
theorem Six.set {W : World} {b j : Nat} {l : List Value} {v : Value} (h : Six W b l) (hl : l.length = 6) (hj : j < 6) : Six (W.setCell ⟨b, j, none⟩ v) b (l.set j v) := fun i hi => by
  rw [set_frozen]
  refine ⟨?_, (h i hi).2⟩
  by_cases e : j = i
  · subst e
    rw [set_in (by rw [(h j hi).1]; rfl)]
    simp [List.getD, hl, hi]
  · rw [set_out (fun e' => e e'.2), (h i hi).1]
    simp [List.getD, List.getElem?_set_ne e]
theorem own5_set {w : World} {B g n k j : Nat} {Z : Nat → Nat → Int} {u : Value} (h : Own5 w g n Z k) (hne : ¬ B = g) : Own5 (w.setCell ⟨B, j, none⟩ u) g n Z k :=
  ⟨fun i hi => by rw [set_out (fun e => hne e.1), set_frozen]; exact h.1 i hi, fun k' j' hk hj => by rw [set_out (fun e => hne e.1)]; exact h.2 k' j' hk hj⟩
theorem own1_set {w : World} {B g n k j : Nat} {X : Nat → Int} {u : Value} (h : Own1 w g n X k) (hne : ¬ B = g) : Own1 (w.setCell ⟨B, j, none⟩ u) g n X k :=
  ⟨fun i hi => by rw [set_out (fun e => hne e.1), set_frozen]; exact h.1 i hi, fun k' hk => by rw [set_out (fun e => hne e.1)]; exact h.2 k' hk⟩
theorem ownO_set {w : World} {B g n k j : Nat} {N : Nat → Nat} {O : Nat → Nat → Nat → Int} {u : Value} (h : OwnO w g n N O k) (hne : B < g) : OwnO (w.setCell ⟨B, j, none⟩ u) g n N O k := by
  obtain ⟨h1, xs, h2, h3⟩ := h
  refine ⟨fun i hi => by rw [set_out (fun e => absurd e.1 (by omega)), set_frozen]; exact h1 i hi, xs, h2, fun i hi => ?_⟩
  obtain ⟨a1, a2, a3, a4⟩ := h3 i hi
  exact ⟨a1, by rw [set_size]; exact a2, by rw [set_out (fun e => absurd e.1 (by omega))]; exact a3, own8_set a4 (by omega)⟩
theorem six_new (W : World) (t : TypeId) (v0 v1 v2 v3 v4 v5 : Value) : Six (W.alloc (.cells #[v0, v1, v2, v3, v4, v5] t)) W.heap.size [v0, v1, v2, v3, v4, v5] := by
  intro i hi
  have : i = 0 ∨ i = 1 ∨ i = 2 ∨ i = 3 ∨ i = 4 ∨ i = 5 := by omega
  rcases this with rfl | rfl | rfl | rfl | rfl | rfl <;> exact ⟨by simp, by simp⟩

end Go.Proofs.Ytiahmakaegnnfaa
