/- The walks of DrawPlcSide and DrawPlcEdge; conditions: those typed. -/
import Derived.Test.YtodmfbbicdbjdaaDraw
import Derived.Deep.RegionWith
namespace Go.Proofs.Ytodmfbbicdbjdaa
open Go.RowKit
set_option linter.unusedVariables false

theorem bcell' {W w1 : World} (hb : Below W.heap.size W w1) {q : Addr} (h : q.block < W.heap.size) : w1.cell? q = W.cell? q := hb.cell h

/-- Two cells of a block, neither of them frozen. -/
def Two (W : World) (b : Nat) (u v : Value) : Prop := W.cell? ⟨b, 0, none⟩ = some u ∧ W.cell? ⟨b, 1, none⟩ = some v ∧ W.frozen? ⟨b, 0, none⟩ = false ∧ W.frozen? ⟨b, 1, none⟩ = false
theorem cell_lt {W : World} {b o : Nat} {u : Value} (c : W.cell? ⟨b, o, none⟩ = some u) : b < W.heap.size := by
  by_cases hlt : b < W.heap.size
  · exact hlt
  · exfalso
    have : W.heap[b]? = none := by simp; omega
    simp [World.cell?, this] at c
theorem Two.below {W W' : World} {b : Nat} {u v : Value} (h : Two W b u v) (hb : Below W.heap.size W W') : Two W' b u v := by
  have hlt := cell_lt h.1
  obtain ⟨hc, hf⟩ := bcell hb
  unfold Two
  rw [hc b 0 hlt, hc b 1 hlt, hf b 0 hlt, hf b 1 hlt]
  exact h
theorem Two.alloc {W : World} {b : Nat} {u v : Value} (h : Two W b u v) (o : Obj) : Two (W.alloc o) b u v := h.below ((Below.refl _ _).alloc (by simp) _)
theorem Two.drew {W : World} {b : Nat} {u v : Value} (h : Two W b u v) : Two W.drew b u v := h
theorem Two.kept {r : Nat} {W W' : World} {b : Nat} {u v : Value} (K : Kept r W W') (h : Two W b u v) (hn : ¬ b = r) : Two W' b u v := K.two (cell_lt h.1) hn h

/-- 'Kept', under a name that the walk doesn't open. -/
def KK (r : Nat) (w w' : World) : Prop := Kept r w w'
theorem KK.alloc {r : Nat} {w W : World} (h : KK r w W) (o : Obj) : KK r w (W.alloc o) := Kept.alloc h o
theorem KK.drew {r : Nat} {w W : World} (h : KK r w W) : KK r w W.drew := Kept.drew h
theorem KK.kept {r : Nat} {w W W' : World} (K : Kept r W W') (h : KK r w W) : KK r w W' := Kept.trans h K

/-- A block that begins with these numbers. -/
def Lits (W : World) (g : Nat) (zs : List Int) : Prop := g < W.heap.size ∧ ∀ u : Int, 0 ≤ u → u < zs.length → W.cell? ⟨g, u.toNat, none⟩ = some (.int .i64 (zs.getD u.toNat 0))
theorem Lits.below {W W' : World} {g : Nat} {zs : List Int} (h : Lits W g zs) (hb : Below W.heap.size W W') : Lits W' g zs :=
  ⟨Nat.lt_of_lt_of_le h.1 hb.size, fun u h0 h1 => (hb.cell (p := ⟨g, u.toNat, none⟩) h.1).trans (h.2 u h0 h1)⟩
theorem Lits.alloc {W : World} {g : Nat} {zs : List Int} (h : Lits W g zs) (o : Obj) : Lits (W.alloc o) g zs := h.below ((Below.refl _ _).alloc (by simp) _)
theorem Lits.drew {W : World} {g : Nat} {zs : List Int} (h : Lits W g zs) : Lits W.drew g zs := h
theorem Lits.kept {r : Nat} {W W' : World} {g : Nat} {zs : List Int} (K : Kept r W W') (h : Lits W g zs) (hn : ¬ g = r) : Lits W' g zs :=
  ⟨Nat.lt_of_lt_of_le h.1 K.size, fun u h0 h1 => ((kcell K).1 g u.toNat h.1 hn).trans (h.2 u h0 h1)⟩
theorem Lits.new (zs : List Int) (W : World) (t : TypeId) : Lits (W.alloc (.cells (zs.map (Value.int .i64)).toArray t)) W.heap.size zs := by
  refine ⟨by simp, fun u h0 h1 => ?_⟩
  have hlt : u.toNat < zs.length := by omega
  simp [hlt]

def lit6 (u : Int) : Int := [0, 1, 0, 1, 2, -1].getD u.toNat 0
theorem lit6_bd (u : Int) : -1 ≤ lit6 u ∧ lit6 u ≤ 2 := by
  unfold lit6
  generalize u.toNat = n
  match n with
  | 0 | 1 | 2 | 3 | 4 | 5 => decide
  | n + 6 => simp
theorem lit6_cell {u : Int} (h0 : 0 ≤ u) (h1 : u < 6) (W : World) : (W.alloc (.cells #[Value.int .i64 0, Value.int .i64 1, Value.int .i64 0, Value.int .i64 1, Value.int .i64 2, Value.int .i64 (-1)] 3)).cell? ⟨W.heap.size, u.toNat, none⟩ = some (.int .i64 (lit6 u)) :=
  (Lits.new [0, 1, 0, 1, 2, -1] W 3).2 u h0 h1
theorem lit6_of {W : World} {g : Nat} (h : Lits W g [0, 1, 0, 1, 2, -1]) : ∀ u : Int, 0 ≤ u → u < 6 → W.cell? ⟨g, u.toNat, none⟩ = some (.int .i64 (lit6 u)) := h.2
theorem lit6_at {u : Int} (h0 : 0 ≤ u) (h1 : u < 6) : (#[Value.int .i64 0, Value.int .i64 1, Value.int .i64 0, Value.int .i64 1, Value.int .i64 2, Value.int .i64 (-1)] : Array Value)[u.toNat]? = some (.int .i64 (lit6 u)) := by
  have : u = 0 ∨ u = 1 ∨ u = 2 ∨ u = 3 ∨ u = 4 ∨ u = 5 := by omega
  rcases this with rfl | rfl | rfl | rfl | rfl | rfl <;> rfl

end Go.Proofs.Ytodmfbbicdbjdaa
