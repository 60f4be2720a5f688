/- The walk of the law FnExactCllNew: it answers true; conditions: the walkers lie in memory. -/
import Derived.Test.YtjmjffhommlbnaaGreatCCp
import Derived.Test.YtjmjffhommlbnaaGreatCOk5
import Derived.Test.YtjmjffhommlbnaaGreatInv
import Derived.Deep.DeepCutAuto
import Derived.Test.YtjmjffhommlbnaaGreatCMk
namespace Go.Proofs.YtjmjffhommlbnaaGreat
open Go.RowKit Go.Deep
set_option linter.unusedVariables false

/-- The block that a value leads to. -/
def blk : Value → Option Nat
  | .slice (some a) _ _ => some a.block
  | .pointer (some a) => some a.block
  | _ => none
def In1 (lo : Nat) (w : World) (u : Value) : Prop := ∀ b, blk u = some b → lo ≤ b ∧ b < w.heap.size
def Ap (u v : Value) : Prop := ∀ b c, blk u = some b → blk v = some c → ¬ b = c
theorem in_undef {lo : Nat} {w : World} : In1 lo w undef := fun b h => by cases h
theorem ap_undef : Ap undef undef := fun b c h _ => by cases h
theorem In1.up {lo : Nat} {w w' : World} {u : Value} (h : In1 lo w u) (hs : w.heap.size ≤ w'.heap.size) : In1 lo w' u := fun b e => ⟨(h b e).1, Nat.lt_of_lt_of_le (h b e).2 hs⟩
theorem new_in {lo : Nat} {w : World} {u : Value} {o : Obj} (e : blk u = some w.heap.size) (h : lo ≤ w.heap.size) : In1 lo (w.alloc o) u := fun b hb => by
  rw [e] at hb; cases hb; exact ⟨h, by simp⟩
theorem ap_new_l {lo : Nat} {w : World} {u v : Value} (e : blk u = some w.heap.size) (h : In1 lo w v) : Ap u v := fun b c hb hc => by
  rw [e] at hb; cases hb; have := (h c hc).2; omega
theorem ap_new_r {lo : Nat} {w : World} {u v : Value} (e : blk v = some w.heap.size) (h : In1 lo w u) : Ap u v := fun b c hb hc => by
  rw [e] at hc; cases hc; have := (h b hb).2; omega
theorem own1_zero (w : World) : Own1 (w.alloc (.cells (madeCells #[.int .i64 0] (2 * 1)) 3)) w.heap.size 2 (fun _ => 0) 2 := by
  refine ⟨fun i hi => ?_, fun j hj => ?_⟩
  · have : i = 0 ∨ i = 1 := by omega
    rcases this with rfl | rfl <;> exact ⟨by simp [madeCells], by simp⟩
  · have : j = 0 ∨ j = 1 := by omega
    rcases this with rfl | rfl <;> simp [madeCells]

theorem nils_zero (w : World) : (w.alloc (.cells (madeCells #[.slice none 0 0] (2 * 1)) 81)).cell? ⟨w.heap.size, 0, none⟩ = some (.slice none 0 0) ∧ (w.alloc (.cells (madeCells #[.slice none 0 0] (2 * 1)) 81)).cell? ⟨w.heap.size, 1, none⟩ = some (.slice none 0 0) := ⟨by simp [madeCells], by simp [madeCells]⟩
/-- Six cells written. -/
def put6 (w : World) (g : Nat) (v0 v1 v2 v3 v4 v5 : Value) : World := (((((w.setCell ⟨g, 0, none⟩ v0).setCell ⟨g, 1, none⟩ v1).setCell ⟨g, 2, none⟩ v2).setCell ⟨g, 3, none⟩ v3).setCell ⟨g, 4, none⟩ v4).setCell ⟨g, 5, none⟩ v5
theorem six_put {w : World} {g : Nat} {l : List Value} (h : Six w g l) (v0 v1 v2 v3 v4 v5 : Value) : Six (put6 w g v0 v1 v2 v3 v4 v5) g [v0, v1, v2, v3, v4, v5] := by
  have e : put6 w g v0 v1 v2 v3 v4 v5 = w.setCells g 0 [v0, v1, v2, v3, v4, v5] := rfl
  have q := World.cell?_setCells_in g [v0, v1, v2, v3, v4, v5] 0 w (fun j hj => by
    have := (h j (by simpa using hj)).1
    rw [Nat.zero_add, this]; rfl)
  intro i hi
  rw [e, World.frozen?_setCells]
  refine ⟨?_, (h i hi).2⟩
  have := q i (by simpa using hi)
  rw [Nat.zero_add] at this
  rw [this]
  have : i = 0 ∨ i = 1 ∨ i = 2 ∨ i = 3 ∨ i = 4 ∨ i = 5 := by omega
  rcases this with rfl | rfl | rfl | rfl | rfl | rfl <;> rfl
theorem below_put6 {n : Nat} {a w : World} (h : Below n a w) {g : Nat} (hg : n ≤ g) (v0 v1 v2 v3 v4 v5 : Value) : Below n a (put6 w g v0 v1 v2 v3 v4 v5) :=
  (((((h.setCell (p := ⟨g, 0, none⟩) hg _).setCell (p := ⟨g, 1, none⟩) hg _).setCell (p := ⟨g, 2, none⟩) hg _).setCell (p := ⟨g, 3, none⟩) hg _).setCell (p := ⟨g, 4, none⟩) hg _).setCell (p := ⟨g, 5, none⟩) hg _
theorem size_put6 (w : World) (g : Nat) (v0 v1 v2 v3 v4 v5 : Value) : (put6 w g v0 v1 v2 v3 v4 v5).heap.size = w.heap.size := by simp [put6, World.setCell]
theorem sm_put6 {w : World} {g b : Nat} (h : ¬ g = b) (v0 v1 v2 v3 v4 v5 : Value) : Sm w (put6 w g v0 v1 v2 v3 v4 v5) b := by
  intro o
  unfold put6
  refine ⟨?_, ?_⟩
  · rw [set_out (fun e => h e.1), set_out (fun e => h e.1), set_out (fun e => h e.1), set_out (fun e => h e.1), set_out (fun e => h e.1), set_out (fun e => h e.1)]
  · rw [set_frozen, set_frozen, set_frozen, set_frozen, set_frozen, set_frozen]

/-- The places of those in a cell. -/
def inL (c d cell : Int) (Z : Nat → Nat → Int) (n : Nat) : List Nat := (List.range n).filter (fun k => cellF c d (Z k 1) == cell)
def newV (c d cell : Int) (Z : Nat → Nat → Int) (n : Nat) : CV :=
  if (hasB c d cell && allB c d Z n) = true then ⟨cell, (inL c d cell Z n).length, fun k j => Z (inL c d cell Z n)[k]! j, 0, 2, fun _ => 0, fun _ _ _ => 0, 2, fun _ => 0, 2, fun _ => 0⟩
  else ⟨0, 0, fun _ _ => 0, 0, 0, fun _ => 0, fun _ _ _ => 0, 0, fun _ => 0, 0, fun _ => 0⟩

theorem nothing_own (lo hi : Nat) (w : World) : OwnC lo hi w (.agg #[.int .i64 0, .slice none 0 0, .int .i64 0, .slice none 0 0, .slice none 0 0, .slice none 0 0]) ⟨0, 0, fun _ _ => 0, 0, 0, fun _ => 0, fun _ _ _ => 0, 0, fun _ => 0, 0, fun _ => 0⟩ :=
  ⟨_, _, _, _, 0, 1, 2, 3, fun _ => undef, fun _ => 0, rfl, .inl ⟨rfl, none, 0, rfl⟩, .inl ⟨rfl, none, 0, rfl⟩, .inl ⟨rfl, none, 0, rfl⟩, .inl ⟨rfl, none, 0, rfl⟩, ⟨by decide, by decide, by decide, by decide, by decide, by decide⟩, fun _ h => absurd h (Nat.not_lt_zero _), fun _ _ h => absurd h (Nat.not_lt_zero _)⟩
theorem own_shape {w : World} {base e m n : Nat} {v : Value} {xs : List Value} (h : w.ownsRow base e m v n xs) : ∃ a l c, v = .slice a l c := by
  rcases h.2 with ⟨e, _⟩ | ⟨g, cap, cur, hv, _⟩
  · exact ⟨_, _, _, e⟩
  · exact ⟨_, _, _, hv⟩
theorem inL_len (c d cell : Int) (Z : Nat → Nat → Int) (k : Nat) : (inL c d cell Z k).length ≤ k := by
  have := (List.filter_sublist (p := fun k => cellF c d (Z k 1) == cell) (l := List.range k)).length_le
  rw [List.length_range] at this
  exact this
theorem inL_no {c d cell : Int} {Z : Nat → Nat → Int} {k : Nat} (h : (cellF c d (Z k 1) == cell) = false) : inL c d cell Z (k + 1) = inL c d cell Z k := by
  unfold inL
  rw [List.range_succ, List.filter_append]
  simp [h]
theorem inL_yes {c d cell : Int} {Z : Nat → Nat → Int} {k : Nat} (h : (cellF c d (Z k 1) == cell) = true) : inL c d cell Z (k + 1) = inL c d cell Z k ++ [k] := by
  unfold inL
  rw [List.range_succ, List.filter_append]
  simp [h]

theorem rw_ofL {w : World} {base lo : Nat} {v : Value} {L : List Nat} {Z : Nat → Nat → Int} (h : w.ownsRow base 43 5 v L.length (L.flatMap (five5 Z))) (hlo : lo ≤ base) : ∃ g, base ≤ g ∧ RW lo w.heap.size w v L.length (fun k j => Z L[k]! j) g := by
  rcases h.2 with ⟨e, hl⟩ | ⟨g, cap, cur, hv, _⟩
  · exact ⟨base, Nat.le_refl _, .inl ⟨hl, none, 0, e⟩⟩
  · have ho : w.ownsRow base 43 5 (.slice (some ⟨g, 0, none⟩) L.length cap) L.length (L.flatMap (five5 Z)) := by rw [← hv]; exact h
    refine ⟨g, (ho.lt g rfl).1, .inr ⟨cap, hv, Nat.le_trans hlo (ho.lt g rfl).1, (ho.lt g rfl).2, Nat.le_refl _, fun i hi => ⟨?_, ho.frozenAt i⟩, fun k j hk hj => ?_⟩⟩
    · rw [ho.cellAt i hi]
      have : i < (L.flatMap (five5 Z)).length := by rw [ho.1]; exact hi
      rw [List.getElem?_eq_getElem this]
      rfl
    · rw [ho.cellAt (k * 5 + j) (by omega), P8.get_flat (m := 5) (five5 Z) (fun _ => rfl) L k j hk hj]
      match j, hj with
      | 0, _ => rfl
      | 1, _ => rfl
      | 2, _ => rfl
      | 3, _ => rfl
      | 4, _ => rfl


theorem keepG {W w1 w2 : World} {m k g : Nat} (h : (∀ b o, b < m → ¬ b = g → w1.cell? ⟨b, o, none⟩ = W.cell? ⟨b, o, none⟩) ∧ k ≤ w1.heap.size) (hmk : m ≤ k) (hs : ∀ b, b < m → ¬ b = g → Sm w1 w2 b) (hz : w1.heap.size ≤ w2.heap.size) :
    (∀ b o, b < m → ¬ b = g → w2.cell? ⟨b, o, none⟩ = W.cell? ⟨b, o, none⟩) ∧ k ≤ w2.heap.size :=
  ⟨fun b o hlt hne => (hs b hlt hne o).1.trans (h.1 b o hlt hne), Nat.le_trans h.2 hz⟩
theorem P8.grown_of_below2 {w w' : World} {r : Option Nat} (h : Below w.heap.size w w') : w.grownBy w' r := by
  have := P8.grown_of_below h
  exact ⟨this.os, this.tape, this.output, this.size, fun k hk _ => this.block k hk (by simp)⟩
theorem own1_lit (w : World) : Own1 (w.alloc (.cells #[.int .i64 0, .int .i64 0] 3)) w.heap.size 2 (fun _ => 0) 2 := by
  refine ⟨fun i hi => ?_, fun j hj => ?_⟩
  · have : i = 0 ∨ i = 1 := by omega
    rcases this with rfl | rfl <;> exact ⟨by simp, by simp⟩
  · have : j = 0 ∨ j = 1 := by omega
    rcases this with rfl | rfl <;> simp
theorem snew_facts (w2 : World) (cell : Int) : ((((((w2.alloc (.cells #[] 45)).alloc (.cells #[] 45)).alloc (.cells #[.slice (some ⟨w2.heap.size, 0, none⟩) 0 0, .slice (some ⟨w2.heap.size + 1, 0, none⟩) 0 0] 81)).alloc (.cells #[.int .i64 0, .int .i64 0] 3)).alloc (.cells #[.int .i64 0, .int .i64 0] 3)).alloc (.cells #[.int .i64 cell, .slice none 0 0, .int .i64 0, .slice (some ⟨w2.heap.size + 1 + 1, 0, none⟩) 2 2, .slice (some ⟨w2.heap.size + 1 + 1 + 1, 0, none⟩) 2 2, .slice (some ⟨w2.heap.size + 1 + 1 + 1 + 1, 0, none⟩) 2 2] 37)).cell? ⟨w2.heap.size + 1 + 1, 0, none⟩ = some (.slice (some ⟨w2.heap.size, 0, none⟩) 0 0) ∧ ((((((w2.alloc (.cells #[] 45)).alloc (.cells #[] 45)).alloc (.cells #[.slice (some ⟨w2.heap.size, 0, none⟩) 0 0, .slice (some ⟨w2.heap.size + 1, 0, none⟩) 0 0] 81)).alloc (.cells #[.int .i64 0, .int .i64 0] 3)).alloc (.cells #[.int .i64 0, .int .i64 0] 3)).alloc (.cells #[.int .i64 cell, .slice none 0 0, .int .i64 0, .slice (some ⟨w2.heap.size + 1 + 1, 0, none⟩) 2 2, .slice (some ⟨w2.heap.size + 1 + 1 + 1, 0, none⟩) 2 2, .slice (some ⟨w2.heap.size + 1 + 1 + 1 + 1, 0, none⟩) 2 2] 37)).cell? ⟨w2.heap.size + 1 + 1, 1, none⟩ = some (.slice (some ⟨w2.heap.size + 1, 0, none⟩) 0 0) ∧ Own1 ((((((w2.alloc (.cells #[] 45)).alloc (.cells #[] 45)).alloc (.cells #[.slice (some ⟨w2.heap.size, 0, none⟩) 0 0, .slice (some ⟨w2.heap.size + 1, 0, none⟩) 0 0] 81)).alloc (.cells #[.int .i64 0, .int .i64 0] 3)).alloc (.cells #[.int .i64 0, .int .i64 0] 3)).alloc (.cells #[.int .i64 cell, .slice none 0 0, .int .i64 0, .slice (some ⟨w2.heap.size + 1 + 1, 0, none⟩) 2 2, .slice (some ⟨w2.heap.size + 1 + 1 + 1, 0, none⟩) 2 2, .slice (some ⟨w2.heap.size + 1 + 1 + 1 + 1, 0, none⟩) 2 2] 37)) (w2.heap.size + 1 + 1 + 1) 2 (fun _ => 0) 2 ∧ Own1 ((((((w2.alloc (.cells #[] 45)).alloc (.cells #[] 45)).alloc (.cells #[.slice (some ⟨w2.heap.size, 0, none⟩) 0 0, .slice (some ⟨w2.heap.size + 1, 0, none⟩) 0 0] 81)).alloc (.cells #[.int .i64 0, .int .i64 0] 3)).alloc (.cells #[.int .i64 0, .int .i64 0] 3)).alloc (.cells #[.int .i64 cell, .slice none 0 0, .int .i64 0, .slice (some ⟨w2.heap.size + 1 + 1, 0, none⟩) 2 2, .slice (some ⟨w2.heap.size + 1 + 1 + 1, 0, none⟩) 2 2, .slice (some ⟨w2.heap.size + 1 + 1 + 1 + 1, 0, none⟩) 2 2] 37)) (w2.heap.size + 1 + 1 + 1 + 1) 2 (fun _ => 0) 2 ∧ Six ((((((w2.alloc (.cells #[] 45)).alloc (.cells #[] 45)).alloc (.cells #[.slice (some ⟨w2.heap.size, 0, none⟩) 0 0, .slice (some ⟨w2.heap.size + 1, 0, none⟩) 0 0] 81)).alloc (.cells #[.int .i64 0, .int .i64 0] 3)).alloc (.cells #[.int .i64 0, .int .i64 0] 3)).alloc (.cells #[.int .i64 cell, .slice none 0 0, .int .i64 0, .slice (some ⟨w2.heap.size + 1 + 1, 0, none⟩) 2 2, .slice (some ⟨w2.heap.size + 1 + 1 + 1, 0, none⟩) 2 2, .slice (some ⟨w2.heap.size + 1 + 1 + 1 + 1, 0, none⟩) 2 2] 37)) (w2.heap.size + 1 + 1 + 1 + 1 + 1) [.int .i64 cell, .slice none 0 0, .int .i64 0, .slice (some ⟨w2.heap.size + 1 + 1, 0, none⟩) 2 2, .slice (some ⟨w2.heap.size + 1 + 1 + 1, 0, none⟩) 2 2, .slice (some ⟨w2.heap.size + 1 + 1 + 1 + 1, 0, none⟩) 2 2] := by
  generalize ha : w2.alloc (.cells #[] 45) = wa
  have za : wa.heap.size = w2.heap.size + 1 := by rw [← ha]; simp
  generalize hb : wa.alloc (.cells #[] 45) = wb
  have zb : wb.heap.size = w2.heap.size + 1 + 1 := by rw [← hb]; simp [za]
  generalize hc : wb.alloc (.cells #[.slice (some ⟨w2.heap.size, 0, none⟩) 0 0, .slice (some ⟨w2.heap.size + 1, 0, none⟩) 0 0] 81) = wc
  have zc : wc.heap.size = w2.heap.size + 1 + 1 + 1 := by rw [← hc]; simp [zb]
  have c0 : wc.cell? ⟨w2.heap.size + 1 + 1, 0, none⟩ = some (.slice (some ⟨w2.heap.size, 0, none⟩) 0 0) := by rw [← hc, ← zb]; simp
  have c1 : wc.cell? ⟨w2.heap.size + 1 + 1, 1, none⟩ = some (.slice (some ⟨w2.heap.size + 1, 0, none⟩) 0 0) := by rw [← hc, ← zb]; simp
  generalize hd : wc.alloc (.cells #[.int .i64 0, .int .i64 0] 3) = wd
  have zd : wd.heap.size = w2.heap.size + 1 + 1 + 1 + 1 := by rw [← hd]; simp [zc]
  have kd : Below wc.heap.size wc wd := by rw [← hd]; exact (Below.refl _ _).alloc (Nat.le_refl _) _
  have o2 : Own1 wd (w2.heap.size + 1 + 1 + 1) 2 (fun _ => 0) 2 := by rw [← hd, ← zc]; exact own1_lit wc
  generalize he : wd.alloc (.cells #[.int .i64 0, .int .i64 0] 3) = we
  have ze : we.heap.size = w2.heap.size + 1 + 1 + 1 + 1 + 1 := by rw [← he]; simp [zd]
  have ke : Below wd.heap.size wd we := by rw [← he]; exact (Below.refl _ _).alloc (Nat.le_refl _) _
  have o3 : Own1 we (w2.heap.size + 1 + 1 + 1 + 1) 2 (fun _ => 0) 2 := by rw [← he, ← zd]; exact own1_lit wd
  have kf : Below we.heap.size we (we.alloc (.cells #[.int .i64 cell, .slice none 0 0, .int .i64 0, .slice (some ⟨w2.heap.size + 1 + 1, 0, none⟩) 2 2, .slice (some ⟨w2.heap.size + 1 + 1 + 1, 0, none⟩) 2 2, .slice (some ⟨w2.heap.size + 1 + 1 + 1 + 1, 0, none⟩) 2 2] 37)) := (Below.refl _ _).alloc (Nat.le_refl _) _
  have s7 := six_new we 37 (.int .i64 cell) (.slice none 0 0) (.int .i64 0) (.slice (some ⟨w2.heap.size + 1 + 1, 0, none⟩) 2 2) (.slice (some ⟨w2.heap.size + 1 + 1 + 1, 0, none⟩) 2 2) (.slice (some ⟨w2.heap.size + 1 + 1 + 1 + 1, 0, none⟩) 2 2)
  rw [ze] at s7
  have k1 := bthen (bthen kd ke) kf
  exact ⟨(k1.cell (p := ⟨w2.heap.size + 1 + 1, 0, none⟩) (by show w2.heap.size + 1 + 1 < _; omega)).trans c0, (k1.cell (p := ⟨w2.heap.size + 1 + 1, 1, none⟩) (by show w2.heap.size + 1 + 1 < _; omega)).trans c1, own1_below o2 (by omega) (bthen ke kf), own1_below o3 (by omega) kf, s7⟩


theorem CV.short.more {V : CV} {m n : Nat} (h : V.short m) (hmn : m ≤ n) : V.short n :=
  ⟨Nat.le_trans h.1 hmn, Nat.le_trans h.2.1 hmn, fun k hk => Nat.le_trans (h.2.2.1 k hk) hmn, Nat.le_trans h.2.2.2.1 hmn, Nat.le_trans h.2.2.2.2 hmn⟩

theorem newV_short (c d cell : Int) (Z : Nat → Nat → Int) (n : Nat) (hn : n ≤ 1048576) : (newV c d cell Z n).short 1048576 ∧ (newV c d cell Z n).nO ≤ 2 := by
  have := inL_len c d cell Z n
  unfold newV
  split
  · exact ⟨⟨Nat.le_trans this hn, by show 2 ≤ 1048576; omega, fun _ _ => by show 0 ≤ 1048576; omega, by show 2 ≤ 1048576; omega, by show 2 ≤ 1048576; omega⟩, Nat.le_refl _⟩
  · exact ⟨⟨by show 0 ≤ 1048576; omega, by show 0 ≤ 1048576; omega, fun _ _ => by show 0 ≤ 1048576; omega, by show 0 ≤ 1048576; omega, by show 0 ≤ 1048576; omega⟩, by show 0 ≤ 2; omega⟩
theorem OwnC.sm {lo hi : Nat} {w w' : World} {v : Value} {V : CV} (h : OwnC lo hi w v V) (hs : w.heap.size ≤ w'.heap.size) (k : ∀ b, lo ≤ b → b < hi → Sm w w' b) : OwnC lo hi w' v V := by
  obtain ⟨vW, vO, vX, vI, gW, gO, gX, gI, sl, xs, e, rW, rO, rX, rI, hd, hx1, hx2⟩ := h
  exact ⟨vW, vO, vX, vI, gW, gO, gX, gI, sl, xs, e, rW.sm hs (k gW), rO.sm hs (k gO) (fun i _ => k (xs i)), rX.sm hs (k gX), rI.sm hs (k gI), hd, hx1, hx2⟩
theorem OwnC.below {lo hi : Nat} {w w' : World} {v : Value} {V : CV} (h : OwnC lo hi w v V) (hh : hi ≤ w.heap.size) (hb : Below w.heap.size w w') : OwnC lo hi w' v V :=
  h.sm hb.size (fun b _ hb' => sm_below hb (Nat.lt_of_lt_of_le hb' hh))
theorem OwnC.at {lo hi : Nat} {w : World} {v : Value} {V : CV} (h : OwnC lo hi w v V) : CellAt w v V := by
  obtain ⟨vW, vO, vX, vI, gW, gO, gX, gI, sl, xs, rfl, rW, rO, rX, rI, hd, hx1, hx2⟩ := h
  have hW : ∃ a k, vW = .slice a V.nW k ∧ Row5 w a V.nW V.W := by
    rcases rW with ⟨e, a, k, rfl⟩ | ⟨k, rfl, h1, h2, h3, h4⟩
    · exact ⟨a, k, by rw [e], .inl e⟩
    · exact ⟨_, k, rfl, row5_of_own h4 (by omega)⟩
  have hI : ∀ (v : Value) (n : Nat) (X : Nat → Int) (g : Nat), RI lo hi w v n X g → ∃ a k, v = .slice a n k ∧ Row1 w a n X := fun v n X g r => by
    rcases r with ⟨e, a, k, rfl⟩ | ⟨k, rfl, h1, h2, h3, h4⟩
    · exact ⟨a, k, by rw [e], .inl e⟩
    · exact ⟨_, k, rfl, row1_of_own h4 (by omega)⟩
  have hO : ∃ a k, vO = .slice a V.nO k ∧ RowO w a V.nO V.N V.O := by
    rcases rO with ⟨e, a, k, rfl⟩ | ⟨k, rfl, h1, h2, h3, h4⟩
    · exact ⟨a, k, by rw [e], .inl e⟩
    · refine ⟨_, k, rfl, .inr ⟨gO, 0, rfl, by omega, fun i hi => ?_⟩⟩
      obtain ⟨hc, hp⟩ := h4 i hi
      rcases hp with ⟨e, a, k', e2⟩ | ⟨k', e2, h1, h2, h3, h4⟩
      · exact ⟨a, k', by rw [Nat.zero_add, hc, e2, e], .inl e⟩
      · exact ⟨_, k', by rw [Nat.zero_add, hc, e2], row8_of_own h4 (by omega)⟩
  obtain ⟨aW, kW, rfl, qW⟩ := hW
  obtain ⟨aO, kO, rfl, qO⟩ := hO
  obtain ⟨aX, kX, rfl, qX⟩ := hI _ _ _ _ rX
  obtain ⟨aI, kI, rfl, qI⟩ := hI _ _ _ _ rI
  exact ⟨aW, kW, aO, kO, aX, kX, aI, kI, rfl, qW, qO, qX, qI⟩

end Go.Proofs.YtjmjffhommlbnaaGreat
