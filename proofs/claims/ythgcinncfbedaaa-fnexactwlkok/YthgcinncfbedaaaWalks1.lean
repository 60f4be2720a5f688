/- The walks of the small functions of chapter 1 (places): what each hands back, as plain functions; conditions: none. -/
import Derived.Test.YthgcinncfbedaaaRows
import Derived.WalkKit
import Derived.WalkSpells
import Derived.Below
import Derived.Test.YthgcinncfbedaaaKit
namespace Go.Proofs.Ythgcinncfbedaaa
open Go.RowKit
set_option linter.unusedVariables false

def inB (n lo hi : Int) : Bool := decide (lo ≤ n ∧ n ≤ hi)
def okB (c d : Int) : Bool := inB c 2 4 && inB d 2 8

theorem in_spec (n lo hi : Int) (w : World) :
    Calls Try.prog 20 #[.int .i64 n, .int .i64 lo, .int .i64 hi] w fun e w' => e = .returned (.bool (inB n lo hi)) ∧ w' = w := by
  go_enter Try.func20, Try.ntmps20
  go_wp2
  all_goals (go_ret; exact ⟨by simp [inB, *] <;> omega, rfl⟩)

theorem in_impl (n lo hi : Int) (w : World) :
    Calls Try.prog 21 #[.int .i64 n, .int .i64 lo, .int .i64 hi] w fun e w' => e = .returned (.bool (inB n lo hi)) ∧ w' = w := by
  go_enter Try.func21, Try.ntmps21
  go_wp2
  all_goals (go_ret; exact ⟨by simp [inB, *] <;> omega, rfl⟩)

theorem toMap (c d : Int) (w : World) :
    Calls Try.prog 9 #[.agg #[.int .i64 c, .int .i64 d]] w fun e w' => e = .returned (.agg #[.int .i64 c, .int .i64 d]) ∧ Below w.heap.size w w' := by
  go_enter Try.func9, Try.ntmps9
  go_wp2
  exact bodyPost_ret (v := .agg #[.int .i64 c, .int .i64 d]) (by simp [results, Try.results9, go_sem]) rfl ⟨rfl, (((Below.refl _ _).alloc (by simp) _).alloc (by simp) _).alloc (by simp; omega) _⟩

theorem ok_spec (c d : Int) (w : World) :
    Calls Try.prog 8 #[.agg #[.int .i64 c, .int .i64 d]] w fun e w' => e = .returned (.bool (okB c d)) ∧ Below w.heap.size w w' := by
  cases h : inB c 2 4
  all_goals
    go_enter Try.func8, Try.ntmps8
    go_wp2_with (go_at_call 20; refine (in_spec _ _ _ _).mono ?_; rintro e w' ⟨rfl, rfl⟩)
    go_ret
    exact ⟨by simp [okB, h], (Below.refl _ _).alloc (by simp) _⟩

theorem ok_impl (c d : Int) (w : World) :
    Calls Try.prog 10 #[.agg #[.int .i64 c, .int .i64 d]] w fun e w' => e = .returned (.bool (okB c d)) ∧ Below w.heap.size w w' := by
  cases h : inB c 2 4
  all_goals
    go_enter Try.func10, Try.ntmps10
    go_wp2_with (go_at_call 21; refine (in_impl _ _ _ _).mono ?_; rintro e w' ⟨rfl, rfl⟩)
    go_ret
    exact ⟨by simp [okB, h], (Below.refl _ _).alloc (by simp) _⟩

theorem law_ok (c d : Int) (w : World) :
    Calls Try.prog 3 #[.agg #[.int .i64 c, .int .i64 d]] w fun e w' => e = .returned (.bool true) ∧ Below w.heap.size w w' := by
  go_enter Try.func3, Try.ntmps3
  go_wp2_with fail
  refine (toMap _ _ _).mono ?_
  rintro e w1 ⟨rfl, hb1⟩
  obtain ⟨hc1, hf1⟩ := bcell hb1
  have hz1 : w.heap.size < w1.heap.size := by have := hb1.size; simp at this; omega
  go_wp2_with fail
  refine (ok_spec _ _ _).mono ?_
  rintro e w2 ⟨rfl, hb2⟩
  obtain ⟨hc2, hf2⟩ := bcell hb2
  have hz2 : w.heap.size < w2.heap.size := by have := hb2.size; omega
  go_wp2_with fail
  refine (toMap _ _ _).mono ?_
  rintro e w3 ⟨rfl, hb3⟩
  go_wp2_with fail
  refine (ok_impl _ _ _).mono ?_
  rintro e w4 ⟨rfl, hb4⟩
  go_wp2
  go_ret
  exact ⟨rfl, bthen (bthen (bthen (bthen ((Below.refl _ _).alloc (by simp) _) hb1) hb2) hb3) hb4⟩
end Go.Proofs.Ythgcinncfbedaaa
