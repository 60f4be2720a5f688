/- The walks of CllOk's parts: what a cell has for a side; conditions: it lies in memory. -/
import Derived.Test.YtiahmakaegnnfaaCOk1
namespace Go.Proofs.Ytiahmakaegnnfaa
open Go.RowKit Go.Deep
set_option linter.unusedVariables false

def sideK (c d VC s : Int) (N : Nat) (Z : Nat → Nat → Int) (xn xi : Int) : Bool :=
  P8.listP c d xn N Z && (inB xi 0 5000 && (if sideF c d VC s = -1 then (xn == 0 && xi == 0) else allK (fun j => !(Z j 1 == 1 && cellF c d (Z j 3) != sideF c d VC s)) N))

theorem six_box (w : World) (t : TypeId) (v0 v1 v2 v3 v4 v5 : Value) (o : Obj) : Six ((w.alloc (.cells #[v0, v1, v2, v3, v4, v5] t)).alloc o).drew w.heap.size [v0, v1, v2, v3, v4, v5] := by
  have h := (six_new w t v0 v1 v2 v3 v4 v5).below (W' := (w.alloc (.cells #[v0, v1, v2, v3, v4, v5] t)).alloc o) (by simp) ((Below.refl _ _).alloc (Nat.le_refl _) _)
  exact h

theorem two_new (w : World) (cs : Array Value) (t : TypeId) (c d : Int) : ((w.alloc (.cells cs t)).alloc (.cells #[.int .i64 c, .int .i64 d] 33)).drew.cell? ⟨w.heap.size + 1, 0, none⟩ = some (.int .i64 c) ∧ ((w.alloc (.cells cs t)).alloc (.cells #[.int .i64 c, .int .i64 d] 33)).drew.cell? ⟨w.heap.size + 1, 1, none⟩ = some (.int .i64 d) := by
  have e : (w.alloc (.cells cs t)).heap.size = w.heap.size + 1 := by simp
  refine ⟨?_, ?_⟩
  · show ((w.alloc (.cells cs t)).alloc (.cells #[.int .i64 c, .int .i64 d] 33)).cell? ⟨w.heap.size + 1, 0, none⟩ = _
    rw [← e]; simp
  · show ((w.alloc (.cells cs t)).alloc (.cells #[.int .i64 c, .int .i64 d] 33)).cell? ⟨w.heap.size + 1, 1, none⟩ = _
    rw [← e]; simp

end Go.Proofs.Ytiahmakaegnnfaa
