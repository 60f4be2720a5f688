/- The walk of CllNew, the program's; conditions: the walkers lie in memory. -/
import Derived.Test.YtlbjgecjonegkaaCCp
import Derived.Test.YtlbjgecjonegkaaWalksS
import Derived.Test.YtlbjgecjonegkaaListOk
import Derived.Test.YtlbjgecjonegkaaInv
import Derived.Deep.DeepCutAuto
namespace Go.Proofs.Ytlbjgecjonegkaa
open Go.RowKit Go.Deep
set_option linter.unusedVariables false

/-- The block that a value leads to. -/
def blk : Value → Option Nat
  | .slice (some a) _ _ => some a.block
  | .pointer (some a) => some a.block
  | _ => none
def In1 (lo : Nat) (w : World) (u : Value) : Prop := ∀ b, blk u = some b → lo ≤ b ∧ b < w.heap.size
def Ap (u v : Value) : Prop := ∀ b c, blk u = some b → blk v = some c → ¬ b = c
theorem in_undef {lo : Nat} {w : World} : In1 lo w undef := fun b h => by cases h
theorem ap_undef : Ap undef undef := fun b c h _ => by cases h
theorem In1.up {lo : Nat} {w w' : World} {u : Value} (h : In1 lo w u) (hs : w.heap.size ≤ w'.heap.size) : In1 lo w' u := fun b e => ⟨(h b e).1, Nat.lt_of_lt_of_le (h b e).2 hs⟩
theorem new_in {lo : Nat} {w : World} {u : Value} {o : Obj} (e : blk u = some w.heap.size) (h : lo ≤ w.heap.size) : In1 lo (w.alloc o) u := fun b hb => by
  rw [e] at hb; cases hb; exact ⟨h, by simp⟩
theorem ap_new_l {lo : Nat} {w : World} {u v : Value} (e : blk u = some w.heap.size) (h : In1 lo w v) : Ap u v := fun b c hb hc => by
  rw [e] at hb; cases hb; have := (h c hc).2; omega
theorem ap_new_r {lo : Nat} {w : World} {u v : Value} (e : blk v = some w.heap.size) (h : In1 lo w u) : Ap u v := fun b c hb hc => by
  rw [e] at hc; cases hc; have := (h b hb).2; omega
theorem own1_zero (w : World) : Own1 (w.alloc (.cells (madeCells #[.int .i64 0] (2 * 1)) 3)) w.heap.size 2 (fun _ => 0) 2 := by
  refine ⟨fun i hi => ?_, fun j hj => ?_⟩
  · have : i = 0 ∨ i = 1 := by omega
    rcases this with rfl | rfl <;> exact ⟨by simp [madeCells], by simp⟩
  · have : j = 0 ∨ j = 1 := by omega
    rcases this with rfl | rfl <;> simp [madeCells]

theorem nils_zero (w : World) : (w.alloc (.cells (madeCells #[.slice none 0 0] (2 * 1)) 111)).cell? ⟨w.heap.size, 0, none⟩ = some (.slice none 0 0) ∧ (w.alloc (.cells (madeCells #[.slice none 0 0] (2 * 1)) 111)).cell? ⟨w.heap.size, 1, none⟩ = some (.slice none 0 0) := ⟨by simp [madeCells], by simp [madeCells]⟩
/-- Six cells written. -/
def put6 (w : World) (g : Nat) (v0 v1 v2 v3 v4 v5 : Value) : World := (((((w.setCell ⟨g, 0, none⟩ v0).setCell ⟨g, 1, none⟩ v1).setCell ⟨g, 2, none⟩ v2).setCell ⟨g, 3, none⟩ v3).setCell ⟨g, 4, none⟩ v4).setCell ⟨g, 5, none⟩ v5
theorem six_put {w : World} {g : Nat} {l : List Value} (h : Six w g l) (v0 v1 v2 v3 v4 v5 : Value) : Six (put6 w g v0 v1 v2 v3 v4 v5) g [v0, v1, v2, v3, v4, v5] := by
  have e : put6 w g v0 v1 v2 v3 v4 v5 = w.setCells g 0 [v0, v1, v2, v3, v4, v5] := rfl
  have q := World.cell?_setCells_in g [v0, v1, v2, v3, v4, v5] 0 w (fun j hj => by
    have := (h j (by simpa using hj)).1
    rw [Nat.zero_add, this]; rfl)
  intro i hi
  rw [e, World.frozen?_setCells]
  refine ⟨?_, (h i hi).2⟩
  have := q i (by simpa using hi)
  rw [Nat.zero_add] at this
  rw [this]
  have : i = 0 ∨ i = 1 ∨ i = 2 ∨ i = 3 ∨ i = 4 ∨ i = 5 := by omega
  rcases this with rfl | rfl | rfl | rfl | rfl | rfl <;> rfl
theorem below_put6 {n : Nat} {a w : World} (h : Below n a w) {g : Nat} (hg : n ≤ g) (v0 v1 v2 v3 v4 v5 : Value) : Below n a (put6 w g v0 v1 v2 v3 v4 v5) :=
  (((((h.setCell (p := ⟨g, 0, none⟩) hg _).setCell (p := ⟨g, 1, none⟩) hg _).setCell (p := ⟨g, 2, none⟩) hg _).setCell (p := ⟨g, 3, none⟩) hg _).setCell (p := ⟨g, 4, none⟩) hg _).setCell (p := ⟨g, 5, none⟩) hg _
theorem size_put6 (w : World) (g : Nat) (v0 v1 v2 v3 v4 v5 : Value) : (put6 w g v0 v1 v2 v3 v4 v5).heap.size = w.heap.size := by simp [put6, World.setCell]
theorem sm_put6 {w : World} {g b : Nat} (h : ¬ g = b) (v0 v1 v2 v3 v4 v5 : Value) : Sm w (put6 w g v0 v1 v2 v3 v4 v5) b := by
  intro o
  unfold put6
  refine ⟨?_, ?_⟩
  · rw [set_out (fun e => h e.1), set_out (fun e => h e.1), set_out (fun e => h e.1), set_out (fun e => h e.1), set_out (fun e => h e.1), set_out (fun e => h e.1)]
  · rw [set_frozen, set_frozen, set_frozen, set_frozen, set_frozen, set_frozen]

/-- The places of those in a cell. -/
def inL (c d cell : Int) (Z : Nat → Nat → Int) (n : Nat) : List Nat := (List.range n).filter (fun k => cellF c d (Z k 1) == cell)
def newV (c d cell : Int) (Z : Nat → Nat → Int) (n : Nat) : CV :=
  if (hasB c d cell && allB c d Z n) = true then ⟨cell, (inL c d cell Z n).length, fun k j => Z (inL c d cell Z n)[k]! j, 0, 2, fun _ => 0, fun _ _ _ => 0, 2, fun _ => 0, 2, fun _ => 0⟩
  else ⟨0, 0, fun _ _ => 0, 0, 0, fun _ => 0, fun _ _ _ => 0, 0, fun _ => 0, 0, fun _ => 0⟩

theorem nothing_own (lo hi : Nat) (w : World) : OwnC lo hi w (.agg #[.int .i64 0, .slice none 0 0, .int .i64 0, .slice none 0 0, .slice none 0 0, .slice none 0 0]) ⟨0, 0, fun _ _ => 0, 0, 0, fun _ => 0, fun _ _ _ => 0, 0, fun _ => 0, 0, fun _ => 0⟩ :=
  ⟨_, _, _, _, 0, 1, 2, 3, fun _ => undef, fun _ => 0, rfl, .inl ⟨rfl, none, 0, rfl⟩, .inl ⟨rfl, none, 0, rfl⟩, .inl ⟨rfl, none, 0, rfl⟩, .inl ⟨rfl, none, 0, rfl⟩, ⟨by decide, by decide, by decide, by decide, by decide, by decide⟩, fun _ h => absurd h (Nat.not_lt_zero _), fun _ _ h => absurd h (Nat.not_lt_zero _)⟩
theorem own_shape {w : World} {base e m n : Nat} {v : Value} {xs : List Value} (h : w.ownsRow base e m v n xs) : ∃ a l c, v = .slice a l c := by
  rcases h.2 with ⟨e, _⟩ | ⟨g, cap, cur, hv, _⟩
  · exact ⟨_, _, _, e⟩
  · exact ⟨_, _, _, hv⟩
theorem inL_len (c d cell : Int) (Z : Nat → Nat → Int) (k : Nat) : (inL c d cell Z k).length ≤ k := by
  have := (List.filter_sublist (p := fun k => cellF c d (Z k 1) == cell) (l := List.range k)).length_le
  rw [List.length_range] at this
  exact this
theorem inL_no {c d cell : Int} {Z : Nat → Nat → Int} {k : Nat} (h : (cellF c d (Z k 1) == cell) = false) : inL c d cell Z (k + 1) = inL c d cell Z k := by
  unfold inL
  rw [List.range_succ, List.filter_append]
  simp [h]
theorem inL_yes {c d cell : Int} {Z : Nat → Nat → Int} {k : Nat} (h : (cellF c d (Z k 1) == cell) = true) : inL c d cell Z (k + 1) = inL c d cell Z k ++ [k] := by
  unfold inL
  rw [List.range_succ, List.filter_append]
  simp [h]

theorem rw_ofL {w : World} {base lo : Nat} {v : Value} {L : List Nat} {Z : Nat → Nat → Int} (h : w.ownsRow base 76 5 v L.length (L.flatMap (five5 Z))) (hlo : lo ≤ base) : ∃ g, base ≤ g ∧ RW lo w.heap.size w v L.length (fun k j => Z L[k]! j) g := by
  rcases h.2 with ⟨e, hl⟩ | ⟨g, cap, cur, hv, _⟩
  · exact ⟨base, Nat.le_refl _, .inl ⟨hl, none, 0, e⟩⟩
  · have ho : w.ownsRow base 76 5 (.slice (some ⟨g, 0, none⟩) L.length cap) L.length (L.flatMap (five5 Z)) := by rw [← hv]; exact h
    refine ⟨g, (ho.lt g rfl).1, .inr ⟨cap, hv, Nat.le_trans hlo (ho.lt g rfl).1, (ho.lt g rfl).2, Nat.le_refl _, fun i hi => ⟨?_, ho.frozenAt i⟩, fun k j hk hj => ?_⟩⟩
    · rw [ho.cellAt i hi]
      have : i < (L.flatMap (five5 Z)).length := by rw [ho.1]; exact hi
      rw [List.getElem?_eq_getElem this]
      rfl
    · rw [ho.cellAt (k * 5 + j) (by omega), P8.get_flat (m := 5) (five5 Z) (fun _ => rfl) L k j hk hj]
      match j, hj with
      | 0, _ => rfl
      | 1, _ => rfl
      | 2, _ => rfl
      | 3, _ => rfl
      | 4, _ => rfl

theorem six_box2 (w : World) (cs : Array Value) (t0 t : TypeId) (v0 v1 v2 v3 v4 v5 : Value) : Six ((w.alloc (.cells cs t0)).alloc (.cells #[v0, v1, v2, v3, v4, v5] t)) (w.heap.size + 1) [v0, v1, v2, v3, v4, v5] := by
  have h := six_new (w.alloc (.cells cs t0)) t v0 v1 v2 v3 v4 v5
  rw [show (w.alloc (.cells cs t0)).heap.size = w.heap.size + 1 by simp] at h
  exact h
end Go.Proofs.Ytlbjgecjonegkaa
