/- The walk of the law FnExactWlkRead: it answers true; conditions: the library's variables are as its text lays them. -/
import Derived.Test.YtalahcfebiencaaDoorRead5
import Derived.Test.YtalahcfebiencaaDoorAgree
namespace Go.Proofs.YtalahcfebiencaaDoor
open Go.RowKit
set_option linter.unusedVariables false

theorem eqWalker (i a n s l : Int) (w : World) :
    Calls Tryd.prog 6 #[.agg #[.int .i64 i, .int .i64 a, .int .i64 n, .int .i64 s, .int .i64 l], .agg #[.int .i64 i, .int .i64 a, .int .i64 n, .int .i64 s, .int .i64 l]] w fun e w' => e = .returned (.bool true) ∧ Below w.heap.size w w' := by
  go_enter Tryd.func6, Tryd.ntmps6
  go_wp2
  go_ret
  exact ⟨rfl, by repeat (first | exact Below.refl _ _ | refine bthen ?_ (by assumption) | apply Below.drew | apply bdrewN | refine Below.alloc ?_ (by simp) _)⟩

theorem impl_yes (s : ByteArray) (w : World) (hE : Env w) (h : vOk s) :
    Calls Tryd.prog 5 #[.string s] w fun e w' => e = .returned (.tuple #[.agg #[.int .i64 (vF s 1), .int .i64 (vF s 3), .int .i64 (vF s 5), .int .i64 (vF s 7), .int .i64 (vF s 9)], .bool true]) ∧ Below w.heap.size w w' := by
  refine (read_impl s w hE).mono ?_
  rintro e w' ⟨⟨_, rfl⟩ | ⟨hn, _⟩, hb⟩
  · exact ⟨rfl, hb⟩
  · exact absurd h hn
theorem impl_no (s : ByteArray) (w : World) (hE : Env w) (h : ¬ vOk s) :
    Calls Tryd.prog 5 #[.string s] w fun e w' => e = .returned (.tuple #[.agg #[.int .i64 0, .int .i64 0, .int .i64 0, .int .i64 0, .int .i64 0], .bool false]) ∧ Below w.heap.size w w' := by
  refine (read_impl s w hE).mono ?_
  rintro e w' ⟨⟨hy, _⟩ | ⟨_, rfl⟩, hb⟩
  · exact absurd hy h
  · exact ⟨rfl, hb⟩

set_option maxHeartbeats 1000000 in
theorem law_read (s : ByteArray) (w : World) (hE' : Env w) :
    Calls Tryd.prog 3 #[.string s] w fun e w' => e = .returned (.bool true) ∧ Below w.heap.size w w' := by
  have hE : Hid (Env w) := hE'
  clear hE'
  by_cases hl : (1048576 : Int) < (s.size : Int)
  · go_enter Tryd.func3, Tryd.ntmps3
    go_wp2
    go_ret
    exact ⟨rfl, Below.refl _ _⟩
  · by_cases hv : vOk s
    · go_enter Tryd.func3, Tryd.ntmps3
      go_wp2_with fail
      refine (spec_yes s _ hv).mono ?_
      rintro e w1 ⟨rfl, hb1⟩
      go_wp2_with fail
      refine (impl_yes s _ ((hE.out.on hb1).on ((Below.refl _ _).alloc (Nat.le_refl _) _)) hv).mono ?_
      rintro e w2 ⟨rfl, hb2⟩
      have hz : w1.heap.size < w2.heap.size := by have := hb2.size; simp at this; omega
      have c0 : w2.cell? ⟨w1.heap.size, 0, none⟩ = some (.int .i64 (vF s 1)) := (hb2.cell (p := ⟨w1.heap.size, 0, none⟩) (by simp)).trans (by simp)
      have c1 : w2.cell? ⟨w1.heap.size, 1, none⟩ = some (.int .i64 (vF s 3)) := (hb2.cell (p := ⟨w1.heap.size, 1, none⟩) (by simp)).trans (by simp)
      have c2 : w2.cell? ⟨w1.heap.size, 2, none⟩ = some (.int .i64 (vF s 5)) := (hb2.cell (p := ⟨w1.heap.size, 2, none⟩) (by simp)).trans (by simp)
      have c3 : w2.cell? ⟨w1.heap.size, 3, none⟩ = some (.int .i64 (vF s 7)) := (hb2.cell (p := ⟨w1.heap.size, 3, none⟩) (by simp)).trans (by simp)
      have c4 : w2.cell? ⟨w1.heap.size, 4, none⟩ = some (.int .i64 (vF s 9)) := (hb2.cell (p := ⟨w1.heap.size, 4, none⟩) (by simp)).trans (by simp)
      have B2 : Below w.heap.size w w2 := bthen (bthen hb1 ((Below.refl _ _).alloc (Nat.le_refl _) _)) hb2
      clear hb1 hb2
      go_wp2_with fail
      refine (eqWalker _ _ _ _ _ _).mono ?_
      rintro e w3 ⟨rfl, hb3⟩
      go_wp2
      go_ret
      exact ⟨rfl, bthen (bthen B2 ((Below.refl _ _).alloc (Nat.le_refl _) _)) hb3⟩
    · go_enter Tryd.func3, Tryd.ntmps3
      go_wp2_with fail
      refine (spec_no s _ hv).mono ?_
      rintro e w1 ⟨rfl, hb1⟩
      go_wp2_with fail
      refine (impl_no s _ ((hE.out.on hb1).on ((Below.refl _ _).alloc (Nat.le_refl _) _)) hv).mono ?_
      rintro e w2 ⟨rfl, hb2⟩
      have hz : w1.heap.size < w2.heap.size := by have := hb2.size; simp at this; omega
      have c0 : w2.cell? ⟨w1.heap.size, 0, none⟩ = some (.int .i64 0) := (hb2.cell (p := ⟨w1.heap.size, 0, none⟩) (by simp)).trans (by simp)
      have c1 : w2.cell? ⟨w1.heap.size, 1, none⟩ = some (.int .i64 0) := (hb2.cell (p := ⟨w1.heap.size, 1, none⟩) (by simp)).trans (by simp)
      have c2 : w2.cell? ⟨w1.heap.size, 2, none⟩ = some (.int .i64 0) := (hb2.cell (p := ⟨w1.heap.size, 2, none⟩) (by simp)).trans (by simp)
      have c3 : w2.cell? ⟨w1.heap.size, 3, none⟩ = some (.int .i64 0) := (hb2.cell (p := ⟨w1.heap.size, 3, none⟩) (by simp)).trans (by simp)
      have c4 : w2.cell? ⟨w1.heap.size, 4, none⟩ = some (.int .i64 0) := (hb2.cell (p := ⟨w1.heap.size, 4, none⟩) (by simp)).trans (by simp)
      have B2 : Below w.heap.size w w2 := bthen (bthen hb1 ((Below.refl _ _).alloc (Nat.le_refl _) _)) hb2
      clear hb1 hb2
      go_wp2_with fail
      refine (eqWalker _ _ _ _ _ _).mono ?_
      rintro e w3 ⟨rfl, hb3⟩
      go_wp2
      go_ret
      exact ⟨rfl, bthen (bthen B2 ((Below.refl _ _).alloc (Nat.le_refl _) _)) hb3⟩
end Go.Proofs.YtalahcfebiencaaDoor
