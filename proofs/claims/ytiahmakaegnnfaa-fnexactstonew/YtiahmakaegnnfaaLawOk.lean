/- The walk of the law FnExactCllOk: it answers true; conditions: the cell lies in memory. -/
import Derived.Test.YtiahmakaegnnfaaCOk5
import Derived.Test.YtiahmakaegnnfaaCEq
namespace Go.Proofs.Ytiahmakaegnnfaa
open Go.RowKit Go.Deep
set_option linter.unusedVariables false

theorem CV.short.more {V : CV} {m n : Nat} (h : V.short m) (hmn : m ≤ n) : V.short n :=
  ⟨Nat.le_trans h.1 hmn, Nat.le_trans h.2.1 hmn, fun k hk => Nat.le_trans (h.2.2.1 k hk) hmn, Nat.le_trans h.2.2.2.1 hmn, Nat.le_trans h.2.2.2.2 hmn⟩
theorem two_box23 (w : World) (c d : Int) (o : Obj) : ((w.alloc (.cells #[.int .i64 c, .int .i64 d] 23)).alloc o).cell? ⟨w.heap.size, 0, none⟩ = some (.int .i64 c) ∧ ((w.alloc (.cells #[.int .i64 c, .int .i64 d] 23)).alloc o).cell? ⟨w.heap.size, 1, none⟩ = some (.int .i64 d) := by
  have k : Below (w.heap.size + 1) (w.alloc (.cells #[.int .i64 c, .int .i64 d] 23)) ((w.alloc (.cells #[.int .i64 c, .int .i64 d] 23)).alloc o) := (Below.refl _ _).alloc (by simp) _
  exact ⟨(k.cell (p := ⟨w.heap.size, 0, none⟩) (Nat.lt_succ_self _)).trans (by simp), (k.cell (p := ⟨w.heap.size, 1, none⟩) (Nat.lt_succ_self _)).trans (by simp)⟩
theorem two_box3 (w : World) (c d : Int) (o o2 : Obj) : (((w.alloc (.cells #[.int .i64 c, .int .i64 d] 23)).alloc o).alloc o2).cell? ⟨w.heap.size, 0, none⟩ = some (.int .i64 c) ∧ (((w.alloc (.cells #[.int .i64 c, .int .i64 d] 23)).alloc o).alloc o2).cell? ⟨w.heap.size, 1, none⟩ = some (.int .i64 d) := by
  have k : Below (w.heap.size + 1) ((w.alloc (.cells #[.int .i64 c, .int .i64 d] 23)).alloc o) (((w.alloc (.cells #[.int .i64 c, .int .i64 d] 23)).alloc o).alloc o2) := (Below.refl _ _).alloc (by simp) _
  exact ⟨(k.cell (p := ⟨w.heap.size, 0, none⟩) (Nat.lt_succ_self _)).trans (two_box23 w c d o).1, (k.cell (p := ⟨w.heap.size, 1, none⟩) (Nat.lt_succ_self _)).trans (two_box23 w c d o).2⟩
theorem five_new (W : World) (o0 o1 o2 o3 o4 : Int) : ∀ i, i < 5 → (W.alloc (.cells #[.int .i64 o0, .int .i64 o1, .int .i64 o2, .int .i64 o3, .int .i64 o4] 25)).cell? ⟨W.heap.size, i, none⟩ = some (.int .i64 ([o0, o1, o2, o3, o4].getD i 0)) := by
  intro i hi
  have : i = 0 ∨ i = 1 ∨ i = 2 ∨ i = 3 ∨ i = 4 := by omega
  rcases this with rfl | rfl | rfl | rfl | rfl <;> simp
theorem five_box (w : World) (o1' o2' : Obj) (o0 o1 o2 o3 o4 : Int) : ∀ i, i < 5 → (((w.alloc o1').alloc o2').alloc (.cells #[.int .i64 o0, .int .i64 o1, .int .i64 o2, .int .i64 o3, .int .i64 o4] 25)).cell? ⟨w.heap.size + 1 + 1, i, none⟩ = some (.int .i64 ([o0, o1, o2, o3, o4].getD i 0)) := by
  have h := five_new ((w.alloc o1').alloc o2') o0 o1 o2 o3 o4
  rw [show ((w.alloc o1').alloc o2').heap.size = w.heap.size + 1 + 1 by simp] at h
  exact h

end Go.Proofs.Ytiahmakaegnnfaa
