/- The walk of CllNew, the model's; conditions: the walkers lie in memory. -/
import Derived.Test.YtlbjgecjonegkaaCNew
namespace Go.Proofs.Ytlbjgecjonegkaa
open Go.RowKit Go.Deep
set_option linter.unusedVariables false

theorem keepG {W w1 w2 : World} {m k g : Nat} (h : (∀ b o, b < m → ¬ b = g → w1.cell? ⟨b, o, none⟩ = W.cell? ⟨b, o, none⟩) ∧ k ≤ w1.heap.size) (hmk : m ≤ k) (hs : ∀ b, b < m → ¬ b = g → Sm w1 w2 b) (hz : w1.heap.size ≤ w2.heap.size) :
    (∀ b o, b < m → ¬ b = g → w2.cell? ⟨b, o, none⟩ = W.cell? ⟨b, o, none⟩) ∧ k ≤ w2.heap.size :=
  ⟨fun b o hlt hne => (hs b hlt hne o).1.trans (h.1 b o hlt hne), Nat.le_trans h.2 hz⟩
theorem P8.grown_of_below2 {w w' : World} {r : Option Nat} (h : Below w.heap.size w w') : w.grownBy w' r := by
  have := P8.grown_of_below h
  exact ⟨this.os, this.tape, this.output, this.size, fun k hk _ => this.block k hk (by simp)⟩
theorem own1_lit (w : World) : Own1 (w.alloc (.cells #[.int .i64 0, .int .i64 0] 3)) w.heap.size 2 (fun _ => 0) 2 := by
  refine ⟨fun i hi => ?_, fun j hj => ?_⟩
  · have : i = 0 ∨ i = 1 := by omega
    rcases this with rfl | rfl <;> exact ⟨by simp, by simp⟩
  · have : j = 0 ∨ j = 1 := by omega
    rcases this with rfl | rfl <;> simp
theorem snew_facts (w2 : World) (cell : Int) : ((((((w2.alloc (.cells #[] 114)).alloc (.cells #[] 114)).alloc (.cells #[.slice (some ⟨w2.heap.size, 0, none⟩) 0 0, .slice (some ⟨w2.heap.size + 1, 0, none⟩) 0 0] 111)).alloc (.cells #[.int .i64 0, .int .i64 0] 3)).alloc (.cells #[.int .i64 0, .int .i64 0] 3)).alloc (.cells #[.int .i64 cell, .slice none 0 0, .int .i64 0, .slice (some ⟨w2.heap.size + 1 + 1, 0, none⟩) 2 2, .slice (some ⟨w2.heap.size + 1 + 1 + 1, 0, none⟩) 2 2, .slice (some ⟨w2.heap.size + 1 + 1 + 1 + 1, 0, none⟩) 2 2] 43)).cell? ⟨w2.heap.size + 1 + 1, 0, none⟩ = some (.slice (some ⟨w2.heap.size, 0, none⟩) 0 0) ∧ ((((((w2.alloc (.cells #[] 114)).alloc (.cells #[] 114)).alloc (.cells #[.slice (some ⟨w2.heap.size, 0, none⟩) 0 0, .slice (some ⟨w2.heap.size + 1, 0, none⟩) 0 0] 111)).alloc (.cells #[.int .i64 0, .int .i64 0] 3)).alloc (.cells #[.int .i64 0, .int .i64 0] 3)).alloc (.cells #[.int .i64 cell, .slice none 0 0, .int .i64 0, .slice (some ⟨w2.heap.size + 1 + 1, 0, none⟩) 2 2, .slice (some ⟨w2.heap.size + 1 + 1 + 1, 0, none⟩) 2 2, .slice (some ⟨w2.heap.size + 1 + 1 + 1 + 1, 0, none⟩) 2 2] 43)).cell? ⟨w2.heap.size + 1 + 1, 1, none⟩ = some (.slice (some ⟨w2.heap.size + 1, 0, none⟩) 0 0) ∧ Own1 ((((((w2.alloc (.cells #[] 114)).alloc (.cells #[] 114)).alloc (.cells #[.slice (some ⟨w2.heap.size, 0, none⟩) 0 0, .slice (some ⟨w2.heap.size + 1, 0, none⟩) 0 0] 111)).alloc (.cells #[.int .i64 0, .int .i64 0] 3)).alloc (.cells #[.int .i64 0, .int .i64 0] 3)).alloc (.cells #[.int .i64 cell, .slice none 0 0, .int .i64 0, .slice (some ⟨w2.heap.size + 1 + 1, 0, none⟩) 2 2, .slice (some ⟨w2.heap.size + 1 + 1 + 1, 0, none⟩) 2 2, .slice (some ⟨w2.heap.size + 1 + 1 + 1 + 1, 0, none⟩) 2 2] 43)) (w2.heap.size + 1 + 1 + 1) 2 (fun _ => 0) 2 ∧ Own1 ((((((w2.alloc (.cells #[] 114)).alloc (.cells #[] 114)).alloc (.cells #[.slice (some ⟨w2.heap.size, 0, none⟩) 0 0, .slice (some ⟨w2.heap.size + 1, 0, none⟩) 0 0] 111)).alloc (.cells #[.int .i64 0, .int .i64 0] 3)).alloc (.cells #[.int .i64 0, .int .i64 0] 3)).alloc (.cells #[.int .i64 cell, .slice none 0 0, .int .i64 0, .slice (some ⟨w2.heap.size + 1 + 1, 0, none⟩) 2 2, .slice (some ⟨w2.heap.size + 1 + 1 + 1, 0, none⟩) 2 2, .slice (some ⟨w2.heap.size + 1 + 1 + 1 + 1, 0, none⟩) 2 2] 43)) (w2.heap.size + 1 + 1 + 1 + 1) 2 (fun _ => 0) 2 ∧ Six ((((((w2.alloc (.cells #[] 114)).alloc (.cells #[] 114)).alloc (.cells #[.slice (some ⟨w2.heap.size, 0, none⟩) 0 0, .slice (some ⟨w2.heap.size + 1, 0, none⟩) 0 0] 111)).alloc (.cells #[.int .i64 0, .int .i64 0] 3)).alloc (.cells #[.int .i64 0, .int .i64 0] 3)).alloc (.cells #[.int .i64 cell, .slice none 0 0, .int .i64 0, .slice (some ⟨w2.heap.size + 1 + 1, 0, none⟩) 2 2, .slice (some ⟨w2.heap.size + 1 + 1 + 1, 0, none⟩) 2 2, .slice (some ⟨w2.heap.size + 1 + 1 + 1 + 1, 0, none⟩) 2 2] 43)) (w2.heap.size + 1 + 1 + 1 + 1 + 1) [.int .i64 cell, .slice none 0 0, .int .i64 0, .slice (some ⟨w2.heap.size + 1 + 1, 0, none⟩) 2 2, .slice (some ⟨w2.heap.size + 1 + 1 + 1, 0, none⟩) 2 2, .slice (some ⟨w2.heap.size + 1 + 1 + 1 + 1, 0, none⟩) 2 2] := by
  generalize ha : w2.alloc (.cells #[] 114) = wa
  have za : wa.heap.size = w2.heap.size + 1 := by rw [← ha]; simp
  generalize hb : wa.alloc (.cells #[] 114) = wb
  have zb : wb.heap.size = w2.heap.size + 1 + 1 := by rw [← hb]; simp [za]
  generalize hc : wb.alloc (.cells #[.slice (some ⟨w2.heap.size, 0, none⟩) 0 0, .slice (some ⟨w2.heap.size + 1, 0, none⟩) 0 0] 111) = wc
  have zc : wc.heap.size = w2.heap.size + 1 + 1 + 1 := by rw [← hc]; simp [zb]
  have c0 : wc.cell? ⟨w2.heap.size + 1 + 1, 0, none⟩ = some (.slice (some ⟨w2.heap.size, 0, none⟩) 0 0) := by rw [← hc, ← zb]; simp
  have c1 : wc.cell? ⟨w2.heap.size + 1 + 1, 1, none⟩ = some (.slice (some ⟨w2.heap.size + 1, 0, none⟩) 0 0) := by rw [← hc, ← zb]; simp
  generalize hd : wc.alloc (.cells #[.int .i64 0, .int .i64 0] 3) = wd
  have zd : wd.heap.size = w2.heap.size + 1 + 1 + 1 + 1 := by rw [← hd]; simp [zc]
  have kd : Below wc.heap.size wc wd := by rw [← hd]; exact (Below.refl _ _).alloc (Nat.le_refl _) _
  have o2 : Own1 wd (w2.heap.size + 1 + 1 + 1) 2 (fun _ => 0) 2 := by rw [← hd, ← zc]; exact own1_lit wc
  generalize he : wd.alloc (.cells #[.int .i64 0, .int .i64 0] 3) = we
  have ze : we.heap.size = w2.heap.size + 1 + 1 + 1 + 1 + 1 := by rw [← he]; simp [zd]
  have ke : Below wd.heap.size wd we := by rw [← he]; exact (Below.refl _ _).alloc (Nat.le_refl _) _
  have o3 : Own1 we (w2.heap.size + 1 + 1 + 1 + 1) 2 (fun _ => 0) 2 := by rw [← he, ← zd]; exact own1_lit wd
  have kf : Below we.heap.size we (we.alloc (.cells #[.int .i64 cell, .slice none 0 0, .int .i64 0, .slice (some ⟨w2.heap.size + 1 + 1, 0, none⟩) 2 2, .slice (some ⟨w2.heap.size + 1 + 1 + 1, 0, none⟩) 2 2, .slice (some ⟨w2.heap.size + 1 + 1 + 1 + 1, 0, none⟩) 2 2] 43)) := (Below.refl _ _).alloc (Nat.le_refl _) _
  have s7 := six_new we 43 (.int .i64 cell) (.slice none 0 0) (.int .i64 0) (.slice (some ⟨w2.heap.size + 1 + 1, 0, none⟩) 2 2) (.slice (some ⟨w2.heap.size + 1 + 1 + 1, 0, none⟩) 2 2) (.slice (some ⟨w2.heap.size + 1 + 1 + 1 + 1, 0, none⟩) 2 2)
  rw [ze] at s7
  have k1 := bthen (bthen kd ke) kf
  exact ⟨(k1.cell (p := ⟨w2.heap.size + 1 + 1, 0, none⟩) (by show w2.heap.size + 1 + 1 < _; omega)).trans c0, (k1.cell (p := ⟨w2.heap.size + 1 + 1, 1, none⟩) (by show w2.heap.size + 1 + 1 < _; omega)).trans c1, own1_below o2 (by omega) (bthen ke kf), own1_below o3 (by omega) kf, s7⟩

end Go.Proofs.Ytlbjgecjonegkaa
