/- The walk of the copy of one walker; small facts on worlds; conditions: none. -/
import Derived.Test.YtgjapdjidighlabGreatRows
import Derived.WalkKit
import Derived.WalkSpells
import Derived.Below
import Derived.Test.YtgjapdjidighlabGreatKit
import Derived.Deep.RegionHeld3
import Derived.Deep.QuietTactic
import Derived.BigQuiet
namespace Go.Proofs.YtgjapdjidighlabGreat
open Go.RowKit
set_option linter.unusedVariables false
theorem bdrewN {a b : World} (h : Below a.heap.size a b) (n : Nat) : Below a.heap.size a (b.drewN n) := h.trans ⟨rfl, rfl, rfl, Nat.le_refl _, fun _ _ => rfl⟩
theorem toWalker (i a n s l : Int) (w : World) :
    Calls Tryz.prog 39 #[.agg #[.int .i64 i, .int .i64 a, .int .i64 n, .int .i64 s, .int .i64 l]] w fun e w' => e = .returned (.agg #[.int .i64 i, .int .i64 a, .int .i64 n, .int .i64 s, .int .i64 l]) ∧ Below w.heap.size w w' := by
  go_enter Tryz.func39, Tryz.ntmps39
  go_wp2
  exact bodyPost_ret (v := .agg #[.int .i64 i, .int .i64 a, .int .i64 n, .int .i64 s, .int .i64 l]) (by simp [results, Tryz.results39, go_sem]) rfl ⟨rfl, (((Below.refl _ _).alloc (by simp) _).alloc (by simp) _).alloc (by simp; omega) _⟩
theorem keepS {W w1 w2 : World} {m : Nat} (h : (∀ b o, b < m → w1.cell? ⟨b, o, none⟩ = W.cell? ⟨b, o, none⟩) ∧ m ≤ w1.heap.size) (hb : Below w1.heap.size w1 w2) :
    (∀ b o, b < m → w2.cell? ⟨b, o, none⟩ = W.cell? ⟨b, o, none⟩) ∧ m ≤ w2.heap.size :=
  ⟨fun b o hlt => (hb.cell (p := ⟨b, o, none⟩) (Nat.lt_of_lt_of_le hlt h.2)).trans (h.1 b o hlt), Nat.le_trans h.2 hb.size⟩
end Go.Proofs.YtgjapdjidighlabGreat
